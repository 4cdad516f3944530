import PyProof.Rows.All
import Wide.All
import OpenK.AllK
import Wide.FinOn
import HandS.ForMost
import HandS.Exc
import HandS.ExcValue
import HandS.ExcField
import HandS.ExcIs
import HandS.IsInst
import HandS.Lambda
import HandS.EndTab
import HandS.Wide
import HandS.WideBits
import HandS.RaiseMore
import HandS.WordsList
import HandS.WordsExc
import HandS.ExcInit
import PyProof.Rows.SetFrom
import HandS.SetFor
import HandS.Zip
import HandS.SortInts
import PyProof.ReprRoads
import HandS.FStrTup
import HandS.EndBits
import HandS.OwnEq
import PyProof.FactsAll.object_2
import HandS.ClsMeth
import HandS.MakeKwOnly
import HandS.Defaults
import KE.KFmtOwn
import HandS.ExcOwn
import PyProof.StrLawsRepr
import PyProof.CallFns
import HandS.Text
import HandS.StrMore
import HandS.Set
import HandS.Strs
import PyProof.Rows.RegReprOcc
import HandS.Conv
import HandS.Codes
import HandS.ForDict
import PyProof.StrLawsIn
import KE.IntTextText
import PyProof.StrBlock2
import KE.KIntText
import PyProof.StrLawsChain
import HandS.List
import HandS.Comp
import HandS.Walk
import KE.KNestM
import PySem.Challenge.RW_oneflip_k12_texts_of_layouts_bent
set_option linter.all false
/-! Ones of a number, pairs of neighbours below it. -/
set_option exponentiation.threshold 100000
namespace M04
theorem two_pos (k : Nat) : 0 < 2 ^ k := Nat.pow_pos (by decide)
def cnt (n : Nat) : Nat → Nat
  | 0 => 0
  | k + 1 => cnt n k + n / 2 ^ k % 2
theorem cnt_low (n k : Nat) : cnt n (k + 1) = n % 2 + cnt (n / 2) k := by
  induction k with
  | zero =>
    show 0 + n / 2 ^ 0 % 2 = n % 2 + 0
    rw [Nat.pow_zero, Nat.div_one]
    omega
  | succ k ih =>
    show cnt n (k + 1) + n / 2 ^ (k + 1) % 2 = n % 2 + (cnt (n / 2) k + n / 2 / 2 ^ k % 2)
    rw [ih, Nat.div_div_eq_div_mul, Nat.pow_succ, Nat.mul_comm 2]
    omega
def pc (n : Nat) : Nat := cnt n n
theorem cnt_zero (k : Nat) : cnt 0 k = 0 := by
  induction k with
  | zero => rfl
  | succ k ih =>
    show cnt 0 k + 0 / 2 ^ k % 2 = 0
    rw [ih, Nat.zero_div]
theorem cnt_more {n k : Nat} (h : n < 2 ^ k) : cnt n (k + 1) = cnt n k := by
  show cnt n k + n / 2 ^ k % 2 = cnt n k
  rw [Nat.div_eq_of_lt h]
  rfl
theorem cnt_up {n k : Nat} (h : n < 2 ^ k) (m : Nat) : cnt n (k + m) = cnt n k := by
  induction m with
  | zero => rfl
  | succ m ih =>
    have h2 : n < 2 ^ (k + m) := Nat.lt_of_lt_of_le h (Nat.pow_le_pow_right (by decide) (Nat.le_add_right k m))
    exact (cnt_more h2).trans ih
theorem cnt_pc {n k : Nat} (h : n < 2 ^ k) : cnt n k = pc n := by
  unfold pc
  have h2 : n < 2 ^ n := Nat.lt_two_pow_self
  by_cases c : k ≤ n
  · have e := cnt_up h (n - k)
    rw [show k + (n - k) = n by omega] at e
    exact e.symm
  · have e := cnt_up h2 (k - n)
    rw [show n + (k - n) = k by omega] at e
    exact e
theorem pc_half (n : Nat) : pc n = n % 2 + pc (n / 2) := by
  have h : n < 2 ^ (n + 1) := Nat.lt_trans Nat.lt_two_pow_self (Nat.pow_lt_pow_right (by decide) (Nat.lt_succ_self n))
  have h2 : n / 2 < 2 ^ n := by
    rw [Nat.pow_succ] at h
    omega
  rw [← cnt_pc h, cnt_low, cnt_pc h2]
theorem pc_two (n : Nat) : pc (2 * n) = pc n := by
  rw [pc_half, show 2 * n % 2 = 0 by omega, show 2 * n / 2 = n by omega, Nat.zero_add]
theorem pc_odd (n : Nat) : pc (2 * n + 1) = pc n + 1 := by
  rw [pc_half, show (2 * n + 1) % 2 = 1 by omega, show (2 * n + 1) / 2 = n by omega, Nat.add_comm]
theorem pc_zero : pc 0 = 0 := rfl
/-- the ones of all words below n -/
def E : Nat → Nat
  | 0 => 0
  | n + 1 => E n + pc n
theorem E_two (m : Nat) : E (2 * m) = 2 * E m + m := by
  induction m with
  | zero => rfl
  | succ m ih =>
    show E (2 * m) + pc (2 * m) + pc (2 * m + 1) = 2 * (E m + pc m) + (m + 1)
    rw [ih, pc_two, pc_odd]
    omega
theorem E_odd (m : Nat) : E (2 * m + 1) = E m + E (m + 1) + m := by
  show E (2 * m) + pc (2 * m) = E m + (E m + pc m) + m
  rw [E_two, pc_two]
  omega
theorem E_even (m : Nat) : E (2 * m + 2) = 2 * E (m + 1) + m + 1 := E_two (m + 1)
def T (b : Nat) : Nat := b * 2 ^ b / 2
theorem T_succ (b : Nat) : T (b + 1) = (b + 1) * 2 ^ b := by
  unfold T
  rw [Nat.pow_succ, ← Nat.mul_assoc, Nat.mul_div_cancel _ (by decide)]
theorem T_two (b : Nat) : 2 * T b = b * 2 ^ b := by
  cases b with
  | zero => rfl
  | succ b => rw [T_succ, Nat.pow_succ, Nat.mul_comm 2, Nat.mul_assoc]
theorem pc_pow (q b : Nat) : pc (q * 2 ^ b) = pc q := by
  induction b with
  | zero => rw [Nat.pow_zero, Nat.mul_one]
  | succ b ih => rw [Nat.pow_succ, ← Nat.mul_assoc, Nat.mul_comm, pc_two, ih]
theorem E_pow (q b : Nat) : E (q * 2 ^ b + 2 ^ b) = E (q * 2 ^ b) + pc q * 2 ^ b + T b := by
  induction b with
  | zero =>
    show E (q * 1 + 1) = E (q * 1) + pc q * 1 + 0
    rw [Nat.mul_one, Nat.mul_one]
    rfl
  | succ b ih =>
    have e1 : q * 2 ^ (b + 1) = 2 * (q * 2 ^ b) := by rw [Nat.pow_succ, ← Nat.mul_assoc, Nat.mul_comm]
    have e2 : 2 ^ (b + 1) = 2 * 2 ^ b := by rw [Nat.pow_succ, Nat.mul_comm]
    rw [e1, e2, ← Nat.mul_add, E_two, E_two, ih, T_succ, Nat.mul_add, Nat.mul_add, T_two, Nat.add_mul]
    have e3 : pc q * (2 * 2 ^ b) = 2 * (pc q * 2 ^ b) := by rw [← Nat.mul_assoc, Nat.mul_comm (pc q), Nat.mul_assoc]
    rw [e3]
    omega
/-- the bits of n below c, descending -/
def D (n : Nat) : Nat → List Nat
  | 0 => []
  | c + 1 => if n / 2 ^ c % 2 = 1 then c :: D n c else D n c
def S : List Nat → Nat → Nat → Nat
  | [], _, acc => acc
  | b :: r, a, acc => S r (a + 1) (acc + a * 2 ^ b + T b)
theorem S_is (n c : Nat) : S (D n c) (pc (n / 2 ^ c)) (E (n / 2 ^ c * 2 ^ c)) = E n := by
  induction c with
  | zero =>
    show E (n / 2 ^ 0 * 2 ^ 0) = E n
    rw [Nat.pow_zero, Nat.div_one, Nat.mul_one]
  | succ c ih =>
    have e : n / 2 ^ (c + 1) = n / 2 ^ c / 2 := by rw [Nat.pow_succ, Nat.div_div_eq_div_mul]
    have e2 : n / 2 ^ (c + 1) * 2 ^ (c + 1) = 2 * (n / 2 ^ c / 2) * 2 ^ c := by
      rw [e, Nat.pow_succ, Nat.mul_comm (2 ^ c), ← Nat.mul_assoc, Nat.mul_comm _ 2]
    unfold D
    by_cases h : n / 2 ^ c % 2 = 1
    · rw [if_pos h, e2, e]
      show S (D n c) (pc (n / 2 ^ c / 2) + 1) (E (2 * (n / 2 ^ c / 2) * 2 ^ c) + pc (n / 2 ^ c / 2) * 2 ^ c + T c) = E n
      have p1 : pc (n / 2 ^ c / 2) + 1 = pc (n / 2 ^ c) := by rw [pc_half (n / 2 ^ c), h, Nat.add_comm]
      have p2 : pc (n / 2 ^ c / 2) = pc (2 * (n / 2 ^ c / 2)) := (pc_two _).symm
      have p3 : 2 * (n / 2 ^ c / 2) * 2 ^ c + 2 ^ c = n / 2 ^ c * 2 ^ c := by
        have z : n / 2 ^ c = 2 * (n / 2 ^ c / 2) + 1 := by omega
        conv => rhs; rw [z]
        rw [Nat.add_mul, Nat.one_mul]
      rw [p1, p2, ← E_pow, p3]
      exact ih
    · rw [if_neg h, e2, e]
      have z : 2 * (n / 2 ^ c / 2) = n / 2 ^ c := by omega
      have p1 : pc (n / 2 ^ c / 2) = pc (n / 2 ^ c) := by
        have q := pc_two (n / 2 ^ c / 2)
        rw [z] at q
        exact q.symm
      rw [z, p1]
      exact ih
theorem S_all {n c : Nat} (h : n < 2 ^ c) : S (D n c) 0 0 = E n := by
  have e := S_is n c
  rw [Nat.div_eq_of_lt h, Nat.zero_mul] at e
  exact e
theorem E_two_pow (p : Nat) : E (2 * 2 ^ p) = (p + 1) * 2 ^ p := by
  have e := E_pow 0 (p + 1)
  rw [Nat.zero_mul, Nat.zero_add, T_succ] at e
  have e2 : 2 ^ (p + 1) = 2 * 2 ^ p := by rw [Nat.pow_succ, Nat.mul_comm]
  rw [e2] at e
  rw [e]
  show 0 + 0 * _ + _ = _
  rw [Nat.zero_mul]
  omega
/-- the bits of n below c, ascending -/
theorem D_rev (n c : Nat) : (D n c).reverse = (List.range c).filter fun i => decide (n / 2 ^ i % 2 = 1) := by
  induction c with
  | zero => rfl
  | succ c ih =>
    rw [List.range_succ, List.filter_append, ← ih]
    show (if n / 2 ^ c % 2 = 1 then c :: D n c else D n c).reverse = _
    by_cases h : n / 2 ^ c % 2 = 1
    · rw [if_pos h, List.reverse_cons]
      simp [h]
    · rw [if_neg h]
      simp [h]
theorem D_lt {n c b : Nat} (h : b ∈ D n c) : b < c := by
  have e : b ∈ (D n c).reverse := List.mem_reverse.mpr h
  rw [D_rev] at e
  exact List.mem_range.mp (List.mem_filter.mp e).1
theorem D_len (n c : Nat) : (D n c).length ≤ c := by
  rw [← List.length_reverse, D_rev]
  exact Nat.le_trans (List.length_filter_le _ _) (by rw [List.length_range]; exact Nat.le_refl _)
/-! ### signs -/
/-- the signs of n to the base 2, the lowest first -/
def R (n : Nat) : List Nat := ((Nat.toDigits 2 n).map fun c => c.toNat).reverse
theorem R_small {n : Nat} (h : n < 2) : R n = [48 + n] := by
  unfold R
  rw [Nat.toDigits_of_lt_base h]
  have e : n = 0 ∨ n = 1 := by omega
  rcases e with rfl | rfl <;> rfl
theorem R_big {n : Nat} (h : 2 ≤ n) : R n = (48 + n % 2) :: R (n / 2) := by
  unfold R
  rw [Nat.toDigits_of_base_le (by decide) h, List.map_append, List.reverse_append]
  have e : n % 2 = 0 ∨ n % 2 = 1 := by omega
  rcases e with z | z <;> rw [z] <;> rfl
theorem R_facts : ∀ n : Nat, n < 2 ^ (R n).length ∧ (∀ i, i < (R n).length → (R n)[i]? = some (48 + n / 2 ^ i % 2)) := by
  intro n
  induction n using Nat.strongRecOn with
  | ind n ih =>
    by_cases h : n < 2
    · rw [R_small h]
      refine ⟨by show n < 2 ^ 1; omega, fun i hi => ?_⟩
      have hi : i < 1 := hi
      have e : i = 0 := by omega
      subst e
      show some (48 + n) = some (48 + n / 2 ^ 0 % 2)
      rw [Nat.pow_zero, Nat.div_one, Nat.mod_eq_of_lt h]
    · have h2 : 2 ≤ n := by omega
      obtain ⟨a, b⟩ := ih (n / 2) (by omega)
      rw [R_big h2]
      refine ⟨?_, fun i hi => ?_⟩
      · show n < 2 ^ ((R (n / 2)).length + 1)
        rw [Nat.pow_succ]
        omega
      · cases i with
        | zero =>
          show some (48 + n % 2) = some (48 + n / 2 ^ 0 % 2)
          rw [Nat.pow_zero, Nat.div_one]
        | succ i =>
          show (R (n / 2))[i]? = _
          rw [b i (by have hi : i + 1 < (R (n / 2)).length + 1 := hi; omega), Nat.div_div_eq_div_mul, Nat.pow_succ, Nat.mul_comm 2]
theorem R_len {n k : Nat} (hk : 0 < k) (h : n < 2 ^ k) : (R n).length ≤ k := by
  induction k generalizing n with
  | zero => exact absurd hk (by decide)
  | succ k ih =>
    by_cases c : n < 2
    · rw [R_small c]
      exact Nat.succ_le_succ (Nat.zero_le _)
    · rw [R_big (by omega)]
      rw [Nat.pow_succ] at h
      have hk2 : 0 < k := by
        cases k with
        | zero =>
          rw [Nat.pow_zero] at h
          omega
        | succ k => exact Nat.succ_pos k
      exact Nat.succ_le_succ (ih hk2 (by omega))
theorem R_count (n : Nat) : (R n).countP (fun c => decide (c = 49)) = pc n := by
  induction n using Nat.strongRecOn with
  | ind n ih =>
    by_cases h : n < 2
    · rw [R_small h]
      have e : n = 0 ∨ n = 1 := by omega
      rcases e with rfl | rfl <;> rfl
    · rw [R_big (by omega), List.countP_cons, ih (n / 2) (by omega), pc_half n]
      have e : n % 2 = 0 ∨ n % 2 = 1 := by omega
      rcases e with z | z <;> rw [z] <;> simp <;> omega
theorem cnt_le (n k : Nat) : cnt n k ≤ k := by
  induction k with
  | zero => exact Nat.le_refl _
  | succ k ih =>
    show cnt n k + n / 2 ^ k % 2 ≤ k + 1
    omega
theorem pc_le {n k : Nat} (h : n < 2 ^ k) : pc n ≤ k := by
  rw [← cnt_pc h]
  exact cnt_le n k
theorem E_le {n k : Nat} (h : n ≤ 2 ^ k) : E n ≤ n * k := by
  induction n with
  | zero => exact Nat.zero_le _
  | succ n ih =>
    have a := ih (Nat.le_of_succ_le h)
    have b := pc_le (n := n) (k := k) (Nat.lt_of_succ_le h)
    show E n + pc n ≤ (n + 1) * k
    rw [Nat.add_mul, Nat.one_mul]
    omega
theorem E_lt {n : Nat} (h : n < 2 ^ 402) : E n < 2 ^ 500 := by
  refine Nat.lt_of_le_of_lt (E_le (Nat.le_of_lt h)) ?_
  have a : n * 402 ≤ 2 ^ 402 * 402 := Nat.mul_le_mul_right _ (Nat.le_of_lt h)
  exact Nat.lt_of_le_of_lt a (by decide)
end M04
set_option maxHeartbeats 1000000
namespace M07
def gray (n : Nat) : Nat := n ^^^ (n >>> 1)
theorem gray_bit (n i : Nat) : (gray n).testBit i = (n.testBit i ^^ n.testBit (i + 1)) := by
  unfold gray
  rw [Nat.testBit_xor, Nat.testBit_shiftRight, Nat.add_comm 1 i]
theorem tele (p s : Nat) : (p ^^^ (p >>> s)) ^^^ ((p ^^^ (p >>> s)) >>> s) = p ^^^ (p >>> (2 * s)) := by
  apply Nat.eq_of_testBit_eq
  intro i
  simp only [Nat.testBit_xor, Nat.testBit_shiftRight]
  rw [show 2 * s + i = s + (s + i) by omega]
  cases p.testBit i <;> cases p.testBit (s + i) <;> cases p.testBit (s + (s + i)) <;> rfl
theorem xor_zero_eq {a b : Nat} (h : a ^^^ b = 0) : a = b := by
  apply Nat.eq_of_testBit_eq
  intro i
  have z : (a ^^^ b).testBit i = (0 : Nat).testBit i := by rw [h]
  rw [Nat.testBit_xor, Nat.zero_testBit] at z
  cases e1 : a.testBit i <;> cases e2 : b.testBit i <;> rw [e1, e2] at z <;> first | rfl | cases z
theorem half_zero {q : Nat} (h : q = q >>> 1) : q = 0 := by
  rw [Nat.shiftRight_eq_div_pow] at h
  omega
theorem gray_end {p s : Nat} (h : gray p < 2 ^ s) : p ^^^ (p >>> s) = p := by
  have e : (p >>> s) ^^^ ((p >>> s) >>> 1) = 0 := by
    have z : gray p >>> s = 0 := by
      rw [Nat.shiftRight_eq_div_pow]
      exact Nat.div_eq_of_lt h
    rw [← z]
    unfold gray
    apply Nat.eq_of_testBit_eq
    intro i
    simp only [Nat.testBit_xor, Nat.testBit_shiftRight]
    rw [show s + (1 + i) = 1 + (s + i) by omega]
  have e3 : p >>> s = 0 := half_zero (xor_zero_eq e)
  rw [e3, Nat.xor_zero]
theorem one_bit (x i : Nat) : decide (x / 2 ^ i % 2 = 1) = x.testBit i := (Nat.testBit_eq_decide_div_mod_eq).symm
theorem next_mod (x i : Nat) : x % 2 ^ (i + 1) = x % 2 ^ i + (if x.testBit i = true then 2 ^ i else 0) := by
  rw [Nat.pow_succ, Nat.mod_mul, ← one_bit]
  have h := Nat.mod_two_eq_zero_or_one (x / 2 ^ i)
  rcases h with h | h <;> simp [h]
/-- the lowest bit that is 0 -/
def Low (p low : Nat) : Prop := (∀ j, j < low → p.testBit j = true) ∧ p.testBit low = false
theorem low_mod {p low : Nat} (h : Low p low) : p % 2 ^ (low + 1) = 2 ^ low - 1 := by
  apply Nat.eq_of_testBit_eq
  intro i
  rw [Nat.testBit_mod_two_pow, Nat.testBit_two_pow_sub_one]
  by_cases h1 : i < low
  · rw [h.1 i h1, decide_eq_true h1, decide_eq_true (show i < low + 1 by omega)]
    rfl
  · by_cases h2 : i = low
    · subst h2
      rw [h.2]
      simp
    · rw [decide_eq_false (show ¬ i < low + 1 by omega), decide_eq_false h1]
      rfl
theorem two_pos (k : Nat) : 0 < 2 ^ k := Nat.two_pow_pos k
theorem low_p {p low : Nat} (h : Low p low) (i : Nat) : p.testBit i = if i < low + 1 then decide (i < low) else (p / 2 ^ (low + 1)).testBit (i - (low + 1)) := by
  have e := Nat.div_add_mod p (2 ^ (low + 1))
  rw [low_mod h] at e
  have l : 2 ^ low - 1 < 2 ^ (low + 1) := by
    have a := two_pos low
    rw [Nat.pow_succ]
    omega
  conv => lhs; rw [← e]
  rw [Nat.testBit_two_pow_mul_add _ l, Nat.testBit_two_pow_sub_one]
theorem low_s {p low : Nat} (h : Low p low) (i : Nat) : (p + 1).testBit i = if i < low + 1 then decide (low = i) else (p / 2 ^ (low + 1)).testBit (i - (low + 1)) := by
  have e := Nat.div_add_mod p (2 ^ (low + 1))
  rw [low_mod h] at e
  have a := two_pos low
  have l : 2 ^ low < 2 ^ (low + 1) := by
    rw [Nat.pow_succ]
    omega
  have e2 : p + 1 = 2 ^ (low + 1) * (p / 2 ^ (low + 1)) + 2 ^ low := by omega
  conv => lhs; rw [e2]
  rw [Nat.testBit_two_pow_mul_add _ l, Nat.testBit_two_pow]
theorem gray_next {p low : Nat} (h : Low p low) : gray (p + 1) = gray p ^^^ 2 ^ low := by
  apply Nat.eq_of_testBit_eq
  intro i
  rw [Nat.testBit_xor, gray_bit, gray_bit, low_p h, low_p h, low_s h, low_s h, Nat.testBit_two_pow]
  by_cases h1 : i < low
  · simp only [show i < low + 1 by omega, show i + 1 < low + 1 by omega, if_true]
    by_cases h2 : i + 1 < low
    · simp [h1, h2, show ¬ low = i by omega, show ¬ low = i + 1 by omega]
    · have h3 : low = i + 1 := by omega
      simp [h3]
  · by_cases h2 : i = low
    · subst h2
      simp
    · simp [show ¬ i < low + 1 by omega, show ¬ i + 1 < low + 1 by omega, show ¬ low = i by omega]
theorem xor_pow {x k : Nat} : x ^^^ 2 ^ k = if x.testBit k = true then x - 2 ^ k else x + 2 ^ k := by
  have split : x = 2 ^ (k + 1) * (x / 2 ^ (k + 1)) + ((if x.testBit k = true then 2 ^ k else 0) + x % 2 ^ k) := by
    have e := Nat.div_add_mod x (2 ^ (k + 1))
    rw [next_mod] at e
    omega
  have m := Nat.mod_lt x (two_pos k)
  have l1 : 2 ^ k + x % 2 ^ k < 2 ^ (k + 1) := by
    rw [Nat.pow_succ]
    omega
  have bits : ∀ (q r : Nat) (i : Nat), r < 2 ^ k → (2 ^ (k + 1) * q + (2 ^ k + r)).testBit i = ((2 ^ (k + 1) * q + r) ^^^ 2 ^ k).testBit i := by
    intro q r i hr
    have l2 : 2 ^ k + r < 2 ^ (k + 1) := by
      rw [Nat.pow_succ]
      omega
    have l3 : r < 2 ^ (k + 1) := by
      rw [Nat.pow_succ]
      omega
    rw [Nat.testBit_xor, Nat.testBit_two_pow_mul_add _ l2, Nat.testBit_two_pow_mul_add _ l3, Nat.testBit_two_pow]
    have er : 2 ^ k + r = 2 ^ k * 1 + r := by omega
    rw [er, Nat.testBit_two_pow_mul_add _ hr]
    by_cases h1 : i < k + 1
    · simp only [h1, if_true]
      by_cases h2 : i < k
      · simp [h2, show ¬ k = i by omega]
      · have h3 : i = k := by omega
        subst h3
        simp [Nat.testBit_lt_two_pow hr]
    · simp [h1, show ¬ k = i by omega]
  cases hb : x.testBit k with
  | true =>
    rw [hb] at split
    simp only [if_true] at split
    have e : 2 ^ (k + 1) * (x / 2 ^ (k + 1)) + x % 2 ^ k = x - 2 ^ k := by omega
    simp only [if_true]
    rw [← e]
    apply Nat.eq_of_testBit_eq
    intro i
    have b := bits (x / 2 ^ (k + 1)) (x % 2 ^ k) i m
    rw [← split] at b
    rw [Nat.testBit_xor, b, Nat.testBit_xor]
    cases (2 ^ (k + 1) * (x / 2 ^ (k + 1)) + x % 2 ^ k).testBit i <;> cases (2 ^ k).testBit i <;> rfl
  | false =>
    rw [hb] at split
    simp only [Bool.false_eq_true, if_false, Nat.zero_add] at split
    simp only [Bool.false_eq_true, if_false]
    have e : 2 ^ (k + 1) * (x / 2 ^ (k + 1)) + (2 ^ k + x % 2 ^ k) = x + 2 ^ k := by omega
    rw [← e]
    apply Nat.eq_of_testBit_eq
    intro i
    rw [bits (x / 2 ^ (k + 1)) (x % 2 ^ k) i m, ← split]
theorem gray_lt {n k : Nat} (h : n < 2 ^ k) : gray n < 2 ^ k := by
  unfold gray
  refine Nat.xor_lt_two_pow h ?_
  rw [Nat.shiftRight_eq_div_pow]
  exact Nat.lt_of_le_of_lt (Nat.div_le_self _ _) h
theorem gray_mod {n k : Nat} (h : n < 2 ^ k) : gray n % 2 ^ k = gray n := Nat.mod_eq_of_lt (gray_lt h)
end M07
set_option Elab.async false
set_option maxRecDepth 100000
set_option maxHeartbeats 2000000
/-! Errors that are caught and kept: an exception object behind its suite. -/
namespace OB
open PySem PySem.Spec PyProof.Rows L2

section kit
open PySem.W PySem.Calls
variable {prog : Program} {w : World} {A : Around} {E : Value → Shared → Prop} {s : Shared} {K : Frag} {x D : Addr} {ox : Obj} {od : Option Obj}
theorem cls_data (hc : (clsIn K D).isSome = true) {nm : Str} {a g : Value} (ha : findIn K (.ref D) nm = some (some a)) (hg : specialIn K a "__get__" = some (some g)) (ht : takesIn K a = some true) :
    findObj K D od nm = some (.bind g a) := by
  cases e : clsIn K D with
  | none => rw [e] at hc; cases hc
  | some cd =>
    unfold findObj
    simp [e, ha, hg, ht]
/-- the class of an exception with or without a dict of its own -/
theorem exc_class {Q : Option Value → Shared → Prop} (C : ExcC K D) (X : K.In s.heap) (I : InstAt s.heap x ox D od) (k : Q (some (.ref D)) { s with toks := s.toks + 1 }) :
    wpAny (model prog w) A (getAttr? (.ref x) "__class__") Q E s := by
  have found : findObj K D od "__class__" = some (.bind (.builtin "getset_descriptor.__get__") (.builtin "object.__class__")) :=
    cls_data (by obtain ⟨cd, e, _⟩ := any_some C.hd; simp [e]) C.ha C.hn C.ht
  obtain ⟨h0, g0, d0, t0, o0⟩ := s
  have ty0 := I.type (M := model prog w)
  have own := looks_findIn (M := model prog w) X C.hg
  have gat := looks_findIn (M := model prog w) X C.hk
  have fnd := looks_find (M := model prog w) X I found
  have isE : Looks (model prog w) h0 (isInstance (.ref x) (.type "BaseException")) true := ty0.andThen (looks_subIn X C.hs)
  have q2 : (Value.builtin "BaseException.__getattribute__" == Value.builtin "object.__getattribute__") = false := by decide +kernel
  have q1 : (onTheHeap (Value.ref D) && Value.builtin "BaseException.__getattribute__" == Value.builtin "object.__getattribute__") = false := by
    rw [q2, Bool.and_false]
  unfold getAttr? getAttrBy? getAttrBy
  refine wpAny_bind (wpAny_mkText (wpAny_bind (wpAny_attempt (wpAny_holding (wpAny_bind (ty0.at (wpAny_bind (own.at ?_))))))))
  dsimp only
  rw [q1]
  unfold getAttrByItsOwn hookBefore
  simp only [Bool.false_eq_true, if_false]
  refine wpAny_bind ?_
  rw [if_pos (show onTheHeap (Value.ref D) = true from rfl)]
  refine gat.at ?_
  refine wpAny_bind (wpAny_attempt (wpAny_holding ?_))
  unfold callGetattribute
  rw [if_neg (by decide)]
  unfold boundAndCalled
  rw [PySem.F.excAttr_ValueError.ga.bind (.ref x)]
  refine wpAny_bind (wpAny_pure ?_)
  refine wpAny_call (codeAny_call_builtin PySem.F.excAttr_ValueError.ga.plain PySem.F.entry_bexc_ga ?_)
  refine @check_slot (model prog w) _ _ ⟨h0, g0, d0, t0 + 1, o0⟩ "BaseException.__getattribute__" "BaseException" "__getattribute__" (.ref x) [.str "__class__" t0] [] _ (by decide +kernel) (by decide +kernel) isE
    (PySem.F.args_bexc_ga (.ref x) (.str "__class__" t0)) ?_
  unfold Builtin.«object.__getattribute__»
  refine wpAny_bind (wpAny_of_eq (a := ((Value.ref x : Value), [Value.str "__class__" t0])) (by first | rfl | (simp only [slotArgs]; rfl)) ?_)
  refine wpAny_bind (wpAny_pure (wpAny_bind (ty0.at (wpAny_bind (fnd.at ?_)))))
  dsimp only
  refine wpAny_bind (wpAny_holding (wpAny_call (class_get (s := ⟨h0, g0, d0, t0 + 1, o0⟩) (ox := ox) (od := od) X I C.hm ?_)))
  refine wpAny_pure ?_
  show wpAny _ _ (handedOut (.ref D)) _ _ _
  rw [handedOut_of (v := .ref D) rfl]
  first
    | exact wpAny_pure (wpAny_pure k)
    | exact wpAny_pure k
    | exact wpAny_pure (wpAny_bind (wpAny_pure (wpAny_pure k)))
theorem exc_kit (C : ExcC K D) : KitX K (.ref x) (.ref D) (fun h => InstAt h x ox D od) := by
  obtain ⟨cd, hcd, _⟩ := any_some C.hd
  unfold clsIn at hcd
  split at hcd
  · rename_i c1 d1 cd1 sl1 look
    refine ⟨fun _ _ _ I => I.type, fun M h X _ A' Q' E' s' keep q => ?_, fun h tp dd its n sl X htp => ?_, fun X I k => exc_class C X I k⟩
    · unfold isType loadHead
      exact wpAny_bind (wpAny_loadPart (keep _ _ (X _ _ look)) (wpAny_pure q))
    · cases e : (Value.ref D == Value.ref tp) with
      | false => rfl
      | true =>
        have e2 : D = tp := Value.ref.inj (beq_iff_eq.mp e)
        rw [← e2] at htp
        have z := (X _ _ look).symm.trans htp
        cases z
  · cases hcd
end kit

/-- an exception object that is kept: its class, its own dict -/
def ExA (cls : Value) (d : Option Addr) (a : Addr) : HO := .ext fun h => ∃ (oe : Obj) (vs : Array Value), h.get? a = some oe ∧ Zc cls d oe ∧ oe.data = .fields vs
theorem exA_ok {P : Program} {w : World} {H : Hp} {h : Heap} {a : Addr} {cls : Value} {d : Option Addr} {oe : Obj} {vs : Array Value} (e : h.get? a = some oe) (z : Zc cls d oe) (f : oe.data = .fields vs) : ObjOk P w H h a (ExA cls d a) :=
  ⟨⟨oe, vs, e, z, f⟩, ⟨oe, e⟩, fun _ _ ⟨o, v, q, r⟩ k => ⟨o, v, k o q, r⟩⟩
theorem exA_at {P : Program} {w : World} {H : Hp} {h : Heap} {a : Addr} {cls : Value} {d : Option Addr} (ok : HOk P w H h) (e : H a = some (ExA cls d a)) : ∃ (oe : Obj) (vs : Array Value), h.get? a = some oe ∧ Zc cls d oe ∧ oe.data = .fields vs := by
  have z : ObjOk P w H h a (ExA cls d a) := ok a _ e
  exact z.1

section
variable {X : Cx} {pins : List (Addr × Obj)} {σ : L2.St} {H : Hp} {s : Shared}
/-- an object that came behind the entry is tracked from now on -/
theorem track {a : Addr} {o : HO} (I : Inv X pins σ H s) (hn : H a = none) (h0 : X.s_0.heap.get? a = none) (nL : a ≠ X.env.locals) (nC : ∀ x c, X.env.cells.lookup x = some c → c ≠ a)
    (nP : ∀ p ∈ X.pn ++ pins, p.1 ≠ a) (new : ObjOk X.prog X.w (upd H a o) s.heap a o) : Inv X pins σ (upd H a o) s := by
  have ne : ∀ {b u}, X.s_0.heap.get? b = some u → b ≠ a := fun {b u} e z => by
    rw [z, h0] at e
    cases e
  refine ⟨I.ok, I.os, I.bare, ⟨I.base.keep, I.base.slot, fun b u e n hx => ?_, I.base.there, fun b xs e => ?_, fun b u v e => ?_, fun b ps e => ?_⟩, I.loc, I.cell, ?_, fun x c e => ?_, fun p hp => ?_, ?_, I.len⟩
  · rw [upd_ne (ne e)]
    exact I.base.free b u e n hx
  · have q := I.base.tups b xs e
    rw [upd_ne (ne_of_none q hn)]
    exact q
  · have q := I.base.frzs b u v e
    rw [upd_ne (ne_of_none q hn)]
    exact q
  · obtain ⟨m, q⟩ := I.base.tbls b ps e
    exact ⟨m, by rw [upd_ne (ne_of_none q hn)]; exact q⟩
  · rw [upd_ne (Ne.symm nL)]
    exact I.free
  · rw [upd_ne (nC x c e)]
    exact I.freeC x c e
  · obtain ⟨e, n, r1, r2, r3⟩ := I.pin p hp
    exact ⟨e, by rw [upd_ne (nP p hp)]; exact n, r1, r2, r3⟩
  · exact I.hok.laidN (fun _ _ e => e) hn new
end

/-- what 'except x as n: kept = n' wishes: behind it slot j holds the exception, which is tracked -/
def wKeep (K : PySem.W.Frag) (c : Value) (i j : Nat) (Wout : WX) (D : Ends) : WX := fun cls d σ H =>
  ∃ b, PySem.W.exmOne K cls c = some b ∧
    (b = true → ∀ a, H a = none → D.nx (((σ.set i (some (.ref a))).set j (some (.ref a))).set i none) (upd H a (ExA cls d a))) ∧ (b = false → Wout cls d σ H)

section
variable {X : Cx} {x n m : Str} {c : Value} {i j : Nat} {body : List Stmt} {np pos pos' p1 p2 p3 : Pos} {tb : WX → TS} {Wout : WX}
theorem ps_try_keep (hs : X.stack = X.env :: X.outer) (hf : X.env.frame = some X.env.locals) (hx : X.ex = []) (hN : X.N.Nodup) (hi : X.N[i]? = some n) (hln : X.env.kindOf n = some .local)
    (hj : X.N[j]? = some m) (hlm : X.env.scope.names.lookup m = some .local) (hc : Names X x c) (tk : Takes X Wout)
    (hb : ∀ (W : WX) (pn : List (Addr × Obj)) (xe : Value → Shared → Prop), Takes (X.tr pn xe) W → PassesOwn (model X.prog X.w) X.A X.env xe → PSs (X.tr pn xe) body (tb W))
    (hdn : (n == ("__debug__" : Str)) = false := by decide) (hcn : (n == ("__classdict__" : Str)) = false := by decide)
    (hsw : ∀ env : Env, swapsWith (.Name n p2) (some (.Name m p1)) p3.line env = pure false := by intro _; rfl) :
    PS X (.Try body [.ExceptHandler (some (.Name x np)) (some n) [.Assign [.Name m p1] (.Name n p2) p3] pos'] [] [] pos) (fun D σ H => tb (wKeep X.K c i j Wout D) D σ H) := by
  refine ⟨fun pins s σ H D I h => ?_⟩
  have okX := I.ok
  have frames : X.A.frames = some (X.env :: X.outer) := by rw [okX.frames, hs]
  have lj : Loc X.env.scope m := .inl hlm
  refine wpAny_Try_except ?_
  have run := (hb (wKeep X.K c i j Wout D) (X.pn ++ pins) (fun e s₁ => wpAny (model X.prog X.w) X.A (noteFrame e X.env)
    (fun _ s₂ => wpAny (model X.prog X.w) X.A (setFlight e none)
      (fun _ s₃ => wpAny (model X.prog X.w) X.A (handleBy e X.env [.ExceptHandler (some (.Name x np)) (some n) [.Assign [.Name m p1] (.Name n p2) p3] pos']) (SP X pins D) X.xe s₃) X.xe s₂) X.xe s₁)
    (fun u s' air => ?_) PassesOwn.looking).run [] s σ H D (I.toTry _) h
  · refine wpAny_mono run (fun f s1 end1 => ?_) (fun _ _ z => z)
    cases f with
    | next =>
      obtain ⟨σ1, H1, J1, q⟩ := end1
      exact wpAny_execs_nil ⟨σ1, H1, J1.ofTry okX, q⟩
    | ret u =>
      obtain ⟨v, σ1, H1, J1, r, q⟩ := end1
      exact ⟨v, σ1, H1, J1.ofTry okX, r, q⟩
    | brk =>
      obtain ⟨σ1, H1, J1, q⟩ := end1
      exact ⟨σ1, H1, J1.ofTry okX, q⟩
    | cont =>
      obtain ⟨σ1, H1, J1, q⟩ := end1
      exact ⟨σ1, H1, J1.ofTry okX, q⟩
  · obtain ⟨a, B, sI, pins1, σ1, H1, cls, d, rfl, J0, ground, up0, sky, na, os1, bare1, b, hb1, yes, no⟩ := air
    have J : Inv X pins σ1 H1 sI := J0.ofTry okX
    have skyX : Sky B (X.env :: X.outer) a (Zc cls d) X.env.locals s'.heap := by
      rw [← hs]
      exact sky
    have Ba : B.get? a = none := by
      rcases skyX with ⟨_, z, _⟩ | ⟨_, z, _⟩ | ⟨_, z, _⟩ <;> exact z
    show wpAny (model X.prog X.w) X.A (noteFrame (.ref a) X.env) _ _ _
    refine Sky.land Zc.steady frames hf skyX fun h3 fl3 up3 => ?_
    have J3 : Inv X pins σ1 H1 { s' with heap := h3 } := J.landed ground fl3.1 (up0.trans up3) os1 bare1
    obtain ⟨oe3, vs3, he3, hz3, hd3⟩ := fl3.there
    have off : a ∉ frs (X.env :: X.outer) := fun hm => by
      obtain ⟨_, o', e', hnf⟩ := fl3.2.2.1.mem hm
      rw [he3] at e'
      cases e'
      exact hnf _ hd3
    have sIa : sI.heap.get? a = none := by
      cases e : sI.heap.get? a with
      | none => rfl
      | some o =>
        have z := ground a o e (by rw [hs]; exact off)
        rw [Ba] at z
        cases z
    have s0a : X.s_0.heap.get? a = none := by
      cases e : X.s_0.heap.get? a with
      | none => rfl
      | some o =>
        obtain ⟨o', z⟩ := J.base.there a o e (by rw [hx]; exact fun z => nomatch z)
        rw [sIa] at z
        cases z
    have nL : a ≠ X.env.locals := fun z => off (List.mem_filterMap.mpr ⟨X.env, List.mem_cons_self, by rw [hf, z]⟩)
    have nF : a ∉ X.fs := fun hm => by
      obtain ⟨e, he, q⟩ := List.mem_filterMap.mp hm
      exact off (List.mem_filterMap.mpr ⟨e, List.mem_cons_of_mem _ he, q⟩)
    have nC : ∀ y k, X.env.cells.lookup y = some k → k ≠ a := fun y k e z => by
      obtain ⟨v, o, ho, _⟩ := J.cell y k e
      rw [z, sIa] at ho
      cases ho
    have nP : ∀ p ∈ X.pn ++ pins, p.1 ≠ a := fun p hp z => by
      have q := (J.pin p hp).1
      rw [z, sIa] at q
      cases q
    have S3 := J3.suite he3 hd3 na nL nF
    refine wpAny_handleBy_cons (codeAny_handlers_test ?_) (by intro q; cases q)
    have LT : PySem.W.Looks (model X.prog X.w) h3 (typeOf (.ref a)) cls := fun A Q E s k q => wpAny_typeOf_ref (k _ _ he3) (by rw [hz3.1]; exact q)
    have LM := PySem.W.exm_one (M := model X.prog X.w) (J3.kIn) LT hb1
    have named : ∀ {Q : Value → Shared → Prop} {E : Value → Shared → Prop}, Q c { s' with heap := h3 } →
        wpAny (model X.prog X.w) (X.A.mark (some (.ref a))) (eval (.Name x np) X.env) Q E { s' with heap := h3 } := fun {Q E} q => by
      obtain ⟨hg, hdbg, hm | ⟨hm, hv, hnn⟩⟩ := hc
      · exact ld_glob (X := X.suite a ((a, oe3) :: (X.pn ++ pins))) S3 hg hm q hdbg
      · exact ld_blt (X := X.suite a ((a, oe3) :: (X.pn ++ pins))) S3 hg hm hv q hnn hdbg
    refine named (LM.here ?_)
    cases b with
    | true =>
      refine codeAny_handlers_suite_as ?_
      refine HandSPX.lands_againZ fl3 fun h4 fl4 up4 => ?_
      have J4 : Inv X pins σ1 H1 { s' with heap := h4 } := J.landed ground fl4.1 ((up0.trans up3).trans up4) os1 bare1
      obtain ⟨oe4, vs4, he4, hz4, hd4⟩ := fl4.there
      have S4 := J4.suite he4 hd4 na nL nF
      refine store_ok (X := X.suite a ((a, oe4) :: (X.pn ++ pins))) (v := .ref a) S4 hN hi (.inl hln) rfl (fun s5 S5 => ?_) (.inr hln)
      have hiσ : i < σ1.length := by
        rw [J.len]
        exact (List.getElem?_eq_some_iff.mp hi).1
      have kept := pss_one (ps_set (X := X.suite a ((a, oe4) :: (X.pn ++ pins))) (pos := p3) (pos' := p1) hN hj lj (pe_var (X := X.suite a ((a, oe4) :: (X.pn ++ pins))) (pos := p2) hi (.inl hln) hdn hcn) (hsw _) (.inr hlm))
      refine wpAny_mono (kept.run [] s5 _ H1 { nx := fun σ' H' => H' = H1 ∧ σ' = (σ1.set i (some (.ref a))).set j (some (.ref a)), rt := fun _ _ => False, bk := fun _ _ => False, ct := fun _ _ => False } S5
        ⟨.ref a, by rw [List.getElem?_set_self hiσ], rfl, rfl⟩) (fun f s6 end6 => ?_) (fun _ _ z => False.elim z)
      cases f with
      | next =>
        obtain ⟨σ6, H6, S6, e6, e7⟩ := end6
        subst e6 e7
        have at6 := (S6.pin (a, oe4) (List.mem_append_left _ List.mem_cons_self)).1
        have J6 : Inv X pins _ H6 s6 := S6.unsuite okX
        have J7 := track (o := ExA cls d a) J6 na s0a nL nC nP (exA_ok at6 hz4 hd4)
        exact gone_ok J7 hN hi hln fun s8 J8 => ⟨_, _, J8, yes rfl a na⟩
      | ret u =>
        obtain ⟨_, _, _, _, _, z⟩ := end6
        exact z.elim
      | brk =>
        obtain ⟨_, _, _, z⟩ := end6
        exact z.elim
      | cont =>
        obtain ⟨_, _, _, z⟩ := end6
        exact z.elim
    | false =>
      show wpAny _ X.A (handleBy (.ref a) X.env []) _ _ _
      refine wpAny_handleBy_nil ?_
      obtain ⟨k1, k2, k3, oe, vs, T, oT, ts', he, hz, hd, h1, hr⟩ := id fl3
      unfold PySem.passOn
      refine wpAny_bind (wpAny_field he hd h1 ?_)
      rw [if_neg (by simp)]
      have out : wpAny (model X.prog X.w) X.A (setFlight (.ref a) X.env.frame) (fun _ s4 => wpAny (model X.prog X.w) X.A (throw (.ref a) : Sem Flow) (SP X pins D) X.xe s4) X.xe { s' with heap := h3 } := by
        rw [hf]
        refine HandSPX.setFlight_upZ fl3 fun h4 hh4 up4 => wpAny_throw (tk _ _ ?_)
        exact ⟨a, B, sI, pins, σ1, H1, cls, d, rfl, J, ground, (up0.trans up3).trans up4, .inr (.inr (by rw [hs]; exact hh4)), na, os1, bare1, no rfl⟩
      first
        | exact wpAny_bind (wpAny_pure (wpAny_bind out))
        | exact wpAny_bind out
end

/-- isinstance(e, c), e an exception that is kept -/
def rIsX (K : PySem.W.Frag) : List V → Hp → VK → Prop := fun xs H Q => ∃ (a D : Addr) (d : Option Addr) (c : V) (u : Value) (b : Bool), xs = [.ref a, c] ∧ ExcC K D ∧ H a = some (ExA (.ref D) d a) ∧ (∀ dd, d = some dd → ∃ fs, H dd = some (.xd fs)) ∧ ClsV c u ∧ PySem.W.kitOne K (.ref D) u = some b ∧ Q (.bl b) H
theorem inst_at {X : Cx} {pins : List (Addr × Obj)} {σ : L2.St} {H : Hp} {s : Shared} {a D : Addr} {d : Option Addr} (I : Inv X pins σ H s) (ha : H a = some (ExA (.ref D) d a)) (hd : ∀ dd, d = some dd → ∃ fs, H dd = some (.xd fs)) :
    ∃ oe od, PySem.W.InstAt s.heap a oe D od := by
  obtain ⟨oe, vs, e, ⟨z1, z2⟩, f⟩ := exA_at I.hok ha
  obtain ⟨oc, odd, oda, osl⟩ := oe
  dsimp only at z1 z2 f
  subst z1 z2 f
  cases odd with
  | none => exact ⟨_, none, e, rfl, rfl, trivial⟩
  | some dd =>
    obtain ⟨fs, hfs⟩ := hd dd rfl
    obtain ⟨mA, hns, _⟩ := (show ObjOk X.prog X.w H s.heap dd (.xd fs) from I.hok dd _ hfs)
    obtain ⟨od, ho, _⟩ := lookIn_ns hns
    exact ⟨_, some od, e, rfl, rfl, ho⟩
theorem call_isX {X : Cx} : CallR X (.builtin "isinstance") (rIsX X.K) := by
  intro pins s σ H xs us Q I r h
  obtain ⟨a, D, d, c, u, b, rfl, C, ha, hd, hc, e, q⟩ := h
  obtain ⟨u1, u2, rfl, r1, r2⟩ := vals2 r
  have e2 := hc.eq r2
  subst e2
  obtain rfl : u1 = Value.ref a := r1
  obtain ⟨oe, od, J⟩ := inst_at I ha hd
  exact PySem.W.kia_one (exc_kit C) I.kIn J e (fun z => nomatch z) fun tk => ⟨.bl b, H, I.tok tk, rfl, q⟩
theorem call_or {X : Cx} {f : Value} {r1 r2 : List V → Hp → VK → Prop} (h1 : CallR X f r1) (h2 : CallR X f r2) : CallR X f (fun xs H Q => r1 xs H Q ∨ r2 xs H Q) := by
  intro pins s σ H xs us Q I r h
  rcases h with h | h
  · exact h1 pins s σ H xs us Q I r h
  · exact h2 pins s σ H xs us Q I r h
/-- e.f of an exception that is kept -/
def tXa (K : PySem.W.Frag) (f : Str) (te : TE) : TE := fun σ H Q => te σ H fun x H1 => ∃ (a D dd : Addr) (fs : List (Str × V)) (v : V), x = .ref a ∧ XfC K D ∧ PySem.W.findIn K (.ref D) f = some none ∧ H1 a = some (ExA (.ref D) (some dd) a) ∧ H1 dd = some (.xd fs) ∧ fs.lookup f = some v ∧ Q v H1
theorem pe_xa {X : Cx} {e : Expr} {te : TE} {pos : Pos} {n : Str} (he : PE X e te) (hb : attributeBase e n X.env (eval e X.env) = eval e X.env := by rfl) : PE X (.Attribute e n pos) (tXa X.K n te) := by
  refine ⟨fun pins s σ H Q I h => ?_⟩
  refine attr_of hb (thn (he.run pins s σ H _ I h) fun u s1 got => ?_)
  obtain ⟨y, H1, I1, ry, a, D, dd, fs, v, rfl, T, hno, ha, hdd, hl, q⟩ := got
  obtain rfl : u = Value.ref a := ry
  obtain ⟨oe, vs, eo, ⟨z1, z2⟩, hd⟩ := exA_at I1.hok ha
  obtain ⟨mA, hns, hr⟩ := (show ObjOk X.prog X.w H1 s1.heap dd (.xd fs) from I1.hok dd _ hdd)
  obtain ⟨od, ho, lk⟩ := lookIn_ns hns
  obtain ⟨u, hu, ru⟩ := RelO.some_of (v := v) (o := mA n) (by rw [← hl]; exact hr n)
  have J : PySem.W.InstAt s1.heap a oe D (some od) := ⟨eo, z1, by unfold PySem.W.notCls; rw [hd] <;> rfl, by rw [z2]; exact ho⟩
  exact HandSPX.exc_get I1.kIn J T.ga T.gg T.exC (PySem.W.findObj_own T.hdC hno rfl (by rw [lk, hu])) (handed_of ru) ⟨v, H1, I1.tok _, ru, q⟩
end OB
/-! Lambdas handed to a def: with no parameter, or with one that has a written int as its default. -/
namespace OB
open PySem PySem.Spec PyProof.Rows L2 LamX

section kit
open PySem.W PySem.Calls
abbrev lFn (qual : Str) (params : Arguments) (body : Expr) (scope : Scope) (cl : List (Str × Addr)) (dV pm cdv ct : Value) : FuncData :=
  { name := "<lambda>", qualname := qual, params := params, body := .expr body, scope := scope, globals := mainGlobals, closure := cl, defaults := dV, kwdefaults := .none, doc := .none, pyModule := pm, annotations := none, code := cdv, closureTuple := ct, builtins := builtinsNs }
abbrev lObj (qual : Str) (params : Arguments) (body : Expr) (scope : Scope) (cl : List (Str × Addr)) (dV pm cdv ct : Value) : Obj :=
  { cls := .type "function", data := .func (lFn qual params body scope cl dV pm cdv ct) }
variable {M : Model} {A : Around} {E : Value → Shared → Prop} {s : Shared} {qual : Str} {params : Arguments} {body : Expr} {scope : Scope} {env : Env} {c P : Addr} {ps : Array Value} {pos : Pos} {firstLine : Nat} {mg : Str → Option Value}
  {clos : List (Str × Addr)} {Q : Value → Shared → Prop} {dV : Value}
/-- a lambda's object is made: the code object comes by hcode1 -/
theorem tail_by (hcl : closureFor scope env = pure clos) (hge0 : env.globals = mainGlobals) (hg : s.heap.Ns mainGlobals mg) (hgP : mainGlobals ≠ P) (hb : s.heap.BuiltinsAt mg P)
    {G : Value → Heap → Heap → Prop}
    (hG : ∀ cv h1 h2, G cv h1 h2 → Heap.ExtBut P h1 h2 ∧ h1.objs.size ≤ h2.objs.size)
    (code : ∀ (h1 : Heap) (tk1 : Tok) (Q1 : Value → Shared → Prop), (∀ b o, s.heap.get? b = some o → h1.get? b = some o) → s.heap.objs.size ≤ h1.objs.size →
      (∀ cv h2 tk, G cv h1 h2 → Q1 cv { s with heap := h2, toks := tk }) → wpAny M A (functionCode env pos firstLine "<lambda>" qual params scope (.expr body)) Q1 E { s with heap := h1, toks := tk1 })
    (h : ∀ cv ctv h1 h2 tk, (∀ b o, s.heap.get? b = some o → h1.get? b = some o) → s.heap.objs.size ≤ h1.objs.size → G cv h1 h2 →
      Q (.ref h2.objs.size) { s with heap := h2.push (lObj qual params body scope clos dV ((mg "__name__").getD .none) cv ctv), toks := tk }) :
    wpAny M A (makeTail "<lambda>" qual params (.expr body) scope env dV .none none pos firstLine) Q E s := by
  obtain ⟨bm, ob, hbm, hne0, _, hneP, hbo, hcls, hdict, hdata⟩ := hb
  have go : ∀ (ctv : Value) (h1 : Heap) (tk1 : Tok), (∀ b o, s.heap.get? b = some o → h1.get? b = some o) → s.heap.objs.size ≤ h1.objs.size →
      wpAny M A (functionCode env pos firstLine "<lambda>" qual params scope (.expr body) >>= fun cv => builtinsFor mainGlobals env.builtins >>= fun bi => nsGet mainGlobals "__name__" >>= fun nm => pure Value.none >>= fun doc =>
        newObj (.type "function") (.func { name := "<lambda>", qualname := qual, params := params, body := .expr body, scope := scope, globals := mainGlobals, closure := clos, closureTuple := ctv, code := cv, builtins := bi, defaults := dV, kwdefaults := .none, annotations := none, pyModule := nm.getD .none, doc := doc })) Q E { s with heap := h1, toks := tk1 } := by
    intro ctv h1 tk1 k1 z1
    refine wpAny_bind (code h1 tk1 _ k1 z1 fun cv h2 tk g => ?_)
    obtain ⟨x2, z2⟩ := hG cv h1 h2 g
    have hg2 := (hg.keeps k1).extBut x2 hgP
    refine wpAny_bind (wpAny_builtinsFor hg2 hbm hne0 (x2 _ _ hneP (k1 _ _ hbo)) hcls hdict hdata ?_)
    refine wpAny_bind (wpAny_nsGet hg2 ?_)
    exact wpAny_bind (wpAny_pure (wpAny_newObj_type (h cv ctv h1 h2 tk k1 z1 g) (by size_fits)))
  unfold makeTail
  rw [hcl, hge0]
  refine wpAny_bind (wpAny_pure ?_)
  cases clos with
  | nil => exact wpAny_bind (wpAny_pure (go .none s.heap s.toks (fun _ _ e => e) (Nat.le_refl _)))
  | cons q r =>
    refine wpAny_bind (wpAny_newTextTuple ?_)
    exact go _ _ s.toks (fun b o e => Heap.get?_push_of_some _ e) (by rw [Heap.size_push]; omega)
end kit

section
variable {X : Cx} {pins : List (Addr × Obj)} {σ : L2.St} {H : Hp} {s : Shared}
/-- what stands of a lambda's defaults: none, or a tuple of ints that nobody tracks -/
def DflAt (h : Heap) (H : Hp) (fs : List Addr) (dV : Value) : List Value → Prop
  | [] => dV = .none
  | ds => ∃ (T : Addr) (o : Obj) (n : Nat), dV = .ref T ∧ h.get? T = some o ∧ o.data = .seq ds.toArray n ∧ H T = none ∧ T ∉ fs
/-- a lambda is made from makeTail on -/
theorem lam_tail {T : List (Addr × Str)} {c P : Addr} {params : Arguments} {body : Expr} {scope : Scope} {pos : Pos} {dV : Value} {ds : List Value} {E : Value → Shared → Prop} {Q : Value → Shared → Prop} (I : Inv X pins σ H s) (TB : TabB X.base X.mg c P) (hcode : X.env.code = .ref c)
    (hm : (P, X.env.qual ++ "<lambda>") ∈ T) (hu : ∀ p ∈ T, p.1 = P → p.2 = X.env.qual ++ "<lambda>") (hT : Tabs T H) (hfree : ∀ y ∈ scope.names, y.2 = .free → ∃ c, X.env.cells.lookup y.1 = some c)
    (hd : DflAt s.heap H (X.env.locals :: X.fs) dV ds)
    (h : ∀ (f c' : Addr) (pm ctv : Value) (H1 : Hp) (s' : Shared), Inv X pins σ H1 s' → ExtN H H1 → Tabs T H1 → DflAt s'.heap H1 (X.env.locals :: X.fs) dV ds →
      s'.heap.get? f = some (lObj (X.env.qual ++ "<lambda>") params body scope (cloFrom X.env.cells scope.names []) dV pm (.ref c') ctv) → H1 f = none → f ≠ X.env.locals → f ∉ X.fs → H1 c' = some (CodeO c' (X.env.qual ++ "<lambda>")) → Q (.ref f) s') :
    wpAny (model X.prog X.w) X.A (makeTail "<lambda>" (X.env.qual ++ "<lambda>") params (.expr body) scope X.env dV .none none pos pos.line) Q E s := by
  obtain ⟨ps, hP, ht, ha⟩ := hT _ hm
  have bP : s.heap.BuiltinsAt X.mg P := TB.bm.keeps I.bk
  have hP' : s.heap.get? P = some { cls := .none, data := .fields ps } := I.hok P _ hP
  have nLoc : ∀ f, s.heap.objs.size ≤ f → f ≠ X.env.locals := fun f hf z => by
    have h1 := I.lt
    rw [← z] at h1
    exact Nat.lt_irrefl _ (Nat.lt_of_lt_of_le h1 hf)
  have CH := TB.code.keeps I.bk
  have later : ∀ {h1 : Heap} {H1 : Hp}, (∀ b o, s.heap.get? b = some o → H b = none → b ≠ P → h1.get? b = some o) → (∀ b o, s.heap.get? b = some o → H b = none → H1 b = none) → DflAt h1 H1 (X.env.locals :: X.fs) dV ds := fun {h1 H1} k1 k2 => by
    cases ds with
    | nil => exact hd
    | cons d r =>
      obtain ⟨Td, o, n, e1, e2, e3, e4, e5⟩ := hd
      refine ⟨Td, o, n, e1, k1 _ _ e2 e4 (fun z => ?_), e3, k2 _ _ e2 e4, e5⟩
      rw [z, hP] at e4
      cases e4
  cases hc : codeAmong pos ps.toList with
  | none =>
    refine tail_by (mg := X.mg) (P := P) (closure_ok hfree) I.ok.glob (I.mod.glob.keeps I.bk) TB.gP bP
      (G := fun cv h1 h2 => ∃ c', cv = .ref c' ∧ Heap.ExtBut P h1 h2 ∧ h1.objs.size ≤ c' ∧ c' < h2.objs.size ∧ h2.CodeRec (.ref c') (X.env.qual ++ "<lambda>") ∧ h2.get? P = some (PySem.W.tabObj (ps ++ #[rawInt pos.line, rawInt pos.col, .ref c'])))
      (fun cv h1 h2 ⟨c', _, x, l1, l2, _⟩ => ⟨x, Nat.le_trans l1 (Nat.le_of_lt l2)⟩) (fun h1 tk1 Q1 k1 z1 q1 => ?_) (fun cv ctv h1 h2 tk k1 z1 g => ?_)
    · exact wpAny_functionCodeX hcode ((CH.keeps k1).code (k1 _ _ hP') ht) ((CH.keeps k1).tab (k1 _ _ hP')) hc fun c' h2 tk hx hge hlt _ hrec htb _ => q1 (.ref c') h2 tk ⟨c', rfl, hx, hge, hlt, hrec, htb.2⟩
    · obtain ⟨c', rfl, hx, hge, hlt, hrec, htb⟩ := g
      obtain ⟨c2, oc, vs, t, e2, hoc, hdc, hv⟩ := hrec
      cases e2
      have hge' : s.heap.objs.size ≤ c' := Nat.le_trans z1 hge
      have hsz : s.heap.objs.size ≤ h2.objs.size := Nat.le_trans hge' (Nat.le_of_lt hlt)
      have nC : H c' = none := I.hok.fresh hge'
      have I1 := inv_table (t' := tk) (more := #[rawInt pos.line, rawInt pos.col, .ref c']) (h' := h2.push (lObj (X.env.qual ++ "<lambda>") params body scope (cloFrom X.env.cells scope.names []) dV ((X.mg "__name__").getD .none) (.ref c') ctv)) I hP
        (fun b o hb e => Heap.get?_push_of_some _ (hx b o hb (k1 _ _ e))) (Heap.get?_push_of_some _ htb) hge' ⟨oc, vs, t, Heap.get?_push_of_some _ hoc, hdc, hv⟩
      have hE : ExtN H (upd (upd H P (.tbl (ps ++ #[rawInt pos.line, rawInt pos.col, .ref c']))) c' (CodeO c' (X.env.qual ++ "<lambda>"))) := fun b o e n => by
        rw [upd_ne (ne_of_none e nC), upd_ne (fun z => n ps (Option.some.inj (e.symm.trans (by rw [z]; exact hP))))]
        exact e
      have eL : (ps ++ #[rawInt pos.line, rawInt pos.col, .ref c']).toList = ps.toList ++ [rawInt pos.line, rawInt pos.col, .ref c'] := by simp
      refine h h2.objs.size c' _ ctv _ _ I1 hE (fun p hp => ?_) (later (fun b o e n hb => Heap.get?_push_of_some _ (hx b o hb (k1 _ _ e))) fun b o e n => ?_) (Heap.get?_push_size _ rfl) ?_ (nLoc _ hsz) (I.nofs hsz) upd_same
      · by_cases hb : p.1 = P
        · rw [hu p hp hb, hb]
          refine ⟨_, by rw [upd_ne (ne_of_none hP nC), upd_same], by rw [eL]; exact PySem.TriplesOk_snoc _ _ _ _ ht, fun p' cv hcv => ?_⟩
          rw [eL] at hcv
          rcases among_app _ ht hcv with z | z
          · obtain ⟨c0, e1, e2⟩ := ha p' cv z
            exact ⟨c0, e1, hE _ _ e2 codeO_ne⟩
          · exact ⟨c', z, upd_same⟩
        · obtain ⟨ps', a1, a2, a3⟩ := hT p hp
          refine ⟨ps', by rw [upd_ne (ne_of_none a1 nC), upd_ne hb]; exact a1, a2, fun p' cv hcv => ?_⟩
          obtain ⟨c0, e1, e2⟩ := a3 p' cv hcv
          exact ⟨c0, e1, hE _ _ e2 codeO_ne⟩
      · rw [upd_ne (Nat.ne_of_lt (Nat.lt_of_lt_of_le (Heap.lt_size e) hge')), upd_ne (fun z => by rw [z, hP] at n; cases n)]
        exact n
      · rw [upd_ne (Nat.ne_of_gt hlt), upd_ne (Nat.ne_of_gt (Nat.lt_of_lt_of_le (Heap.lt_size hP') hsz))]
        exact I.hok.fresh hsz
  | some cv0 =>
    obtain ⟨c', e, hco⟩ := ha pos cv0 hc
    subst e
    refine tail_by (mg := X.mg) (P := P) (closure_ok hfree) I.ok.glob (I.mod.glob.keeps I.bk) TB.gP bP
      (G := fun cv h1 h2 => cv = .ref c' ∧ h2 = h1) (fun cv h1 h2 ⟨_, e⟩ => by rw [e]; exact ⟨fun _ _ _ e => e, Nat.le_refl _⟩) (fun h1 tk1 Q1 k1 z1 q1 => ?_) (fun cv ctv h1 h2 tk k1 z1 g => ?_)
    · exact wpAny_functionCode_hit hcode ((CH.keeps k1).code (k1 _ _ hP') ht) hc (q1 (.ref c') h1 tk1 ⟨rfl, rfl⟩)
    · obtain ⟨rfl, rfl⟩ := g
      have kk : ∀ b o, s.heap.get? b = some o → (h2.push (lObj (X.env.qual ++ "<lambda>") params body scope (cloFrom X.env.cells scope.names []) dV ((X.mg "__name__").getD .none) (.ref c') ctv)).get? b = some o := fun b o e => Heap.get?_push_of_some _ (k1 _ _ e)
      exact h h2.objs.size c' _ ctv H _ (I.kept (t' := tk) kk) (ExtN.refl H) hT (later (fun b o e _ _ => kk b o e) fun _ _ _ n => n) (Heap.get?_push_size _ rfl) (I.hok.fresh z1) (nLoc _ z1) (I.nofs z1) hco
end
end OB
namespace OB
open PySem PySem.Spec PyProof.Rows L2 LamX

/-- a lambda's names: captured ones, globals, and its parameters nm, which are no names of the def around -/
structure LamN (sc scope : Scope) (N nm : List Str) : Prop where
  kind : scope.kind = .function
  co : scope.isCoroutine = false
  gen : scope.isGenerator = false
  own : ∀ y ∈ scope.names, y.2 ≠ .cell ∧ (y.2 = .local → y.1 ∉ N)
  par : ∀ x ∈ nm, scope.names.lookup x = some .local
  free : ∀ y ∈ scope.names, y.2 = .free → sc.names.lookup y.1 = some .cell ∨ sc.names.lookup y.1 = some .free
def lamNB (sc scope : Scope) (N nm : List Str) : Bool :=
  decide (scope.kind = .function) && !scope.isCoroutine && !scope.isGenerator &&
    (scope.names.all fun y => !decide (y.2 = .cell) && (!decide (y.2 = .local) || decide (y.1 ∉ N)) && (!decide (y.2 = .free) || decide (sc.names.lookup y.1 = some .cell) || decide (sc.names.lookup y.1 = some .free))) &&
    nm.all fun x => decide (scope.names.lookup x = some .local)
theorem lamN_by {sc scope : Scope} {N nm : List Str} (h : lamNB sc scope N nm = true) : LamN sc scope N nm := by
  unfold lamNB at h
  simp only [Bool.and_eq_true, Bool.or_eq_true, Bool.not_eq_true', decide_eq_true_eq, decide_eq_false_iff_not, List.all_eq_true] at h
  obtain ⟨⟨⟨⟨h1, h2⟩, h3⟩, h4⟩, h5⟩ := h
  refine ⟨h1, h2, h3, fun y hy => ⟨(h4 y hy).1.1, fun e => ?_⟩, fun x hx => h5 x hx, fun y hy e => ?_⟩
  · rcases (h4 y hy).1.2 with z | z
    · exact absurd e z
    · exact z
  · rcases (h4 y hy).2 with (z | z) | z
    · exact absurd e z
    · exact .inl z
    · exact .inr z
theorem LamN.has {X : Cx} {scope : Scope} {N nm : List Str} (L : LamN X.env.scope scope N nm) (ok : X.Ok) : ∀ y ∈ scope.names, y.2 = .free → ∃ c, X.env.cells.lookup y.1 = some c := fun y hy e => by
  rcases L.free y hy e with k | k
  · exact ok.has _ (.inl k)
  · exact ok.has _ (.inr k)
section
variable {X : Cx} {pins : List (Addr × Obj)} {σ : L2.St} {H HZ : Hp} {s s1 : Shared}
theorem lam_start {A : Around} {outer : List Env} {E : XK} {scope : Scope} {f c' : Addr} {h₁ : Heap} {tk : Nat} {nm : List Str} {m1 : Str → Option Value} (I : Inv X pins σ H s) (L : LamN X.env.scope scope X.N nm) (e0 : Env0 X.prog X.w X.K X.mg X.base A outer s1 HZ) (hd : A.handled = none)
    (un : Un (frs X.stack) [] H HZ s.heap s1.heap) (hns : h₁.Ns s1.heap.objs.size m1) (kp : ∀ b o, s1.heap.get? b = some o → h₁.get? b = some o) :
    Inv (lamCx X A outer s1 HZ E scope f c') [] σ HZ { s1 with heap := h₁, toks := tk } := by
  have hfree := L.has I.ok
  have up : ∀ {y c}, (cloFrom X.env.cells scope.names []).lookup y = some c → X.env.cells.lookup y = some c := fun {y c} e => by
    rcases cloFrom_mem (PySem.mem_of_lookup e) with hm | ⟨h1, h2⟩
    · cases hm
    · obtain ⟨c1, hc⟩ := hfree _ h1 rfl
      have hc : X.env.cells.lookup y = some c1 := hc
      rw [hc] at h2
      have h3 : c = c1 := h2
      rw [h3]
      exact hc
  have down : ∀ {y}, scope.names.lookup y = some .free → ∃ c, (cloFrom X.env.cells scope.names []).lookup y = some c := fun {y} hl =>
    mem_lookup (cloFrom_has (cells := X.env.cells) (acc := []) (PySem.mem_of_lookup hl))
  have cellK : ∀ {c : Addr} {v : Option Value}, H c = none → s.heap.IsCell c v → h₁.IsCell c v := fun {c v} n ⟨o, ho, hd⟩ => by
    obtain ⟨sl, q⟩ := un.any ho n (by simp)
    exact ⟨_, kp _ _ q, hd⟩
  have noX : ∀ b : Addr, b ∉ (lamCx X A outer s1 HZ E scope f c').ex := fun b z => absurd (show b ∈ ([] : List Addr) from z) (by simp)
  refine ⟨⟨e0.mod, L.kind, rfl, rfl, Nat.le_refl _, fun y z c e1 e2 => I.ok.inj y z c (up e1) (up e2), fun y hy => ?_, fun y c z _ => ?_, fun _ => hd, Around.frames_deeper e0.frames, .inr ⟨rfl, rfl⟩, fun b z => absurd z (noX b), e0.bs, e0.bsz, fun b _ _ => noX b,
      fun b z => absurd z (noX b), e0.funs, e0.frf⟩,
    rfl, e0.bare, Un.kept kp, ⟨_, hns, fun i y v e1 e2 e3 => ?_⟩, fun y c e => ?_, e0.hok.fresh (Nat.le_refl _), fun y c e => ?_, fun q hq => absurd (show q ∈ ([] : List (Addr × Obj)) ++ [] from hq) (by simp), e0.hok.kept kp, I.len⟩
  · have hy : scope.names.lookup y = some .cell ∨ scope.names.lookup y = some .free := hy
    rcases hy with hy | hy
    · exact absurd rfl (L.own _ (PySem.mem_of_lookup hy)).1
    · exact down hy
  · have z : false = true := z
    cases z
  · have e3 : Vis scope y := e3
    have e1 : X.N[i]? = some y := e1
    rcases e3 with k | k | k
    · exact absurd (List.mem_of_getElem? e1) ((L.own _ (PySem.mem_of_lookup k)).2 rfl)
    · exact absurd rfl (L.own _ (PySem.mem_of_lookup k)).1
    · obtain ⟨m, hn, hl⟩ := I.loc
      have vis : Vis X.env.scope y := (L.free _ (PySem.mem_of_lookup k) rfl).elim (fun k => .inr (.inl k)) (fun k => .inr (.inr k))
      obtain ⟨w', r, q⟩ := hl i y v e1 e2 vis
      obtain ⟨c2, h2⟩ := down k
      refine ⟨w', r, .inr ⟨.inr k, c2, h2, ?_⟩⟩
      have c1 := up h2
      rcases q with ⟨k', _⟩ | ⟨_, c3, e', z⟩
      · have k' : X.env.scope.names.lookup y = some .local := k'
        rcases L.free _ (PySem.mem_of_lookup k) rfl with k2 | k2 <;> rw [show X.env.scope.names.lookup y = _ from k2] at k' <;> cases k'
      · rw [c1] at e'
        cases e'
        exact cellK (I.freeC y _ c1) z
  · obtain ⟨w', z⟩ := I.cell y c (up e)
    exact ⟨w', cellK (I.freeC y c (up e)) z⟩
  · obtain ⟨v, o, ho, hd⟩ := I.cell y c (up e)
    exact un.free c o ho (I.freeC y c (up e)) (by simp)
/-- how a lambda called with nothing binds its parameters nm to their defaults ds -/
def LamB (params : Arguments) (nm : List Str) (ds : List Value) : Prop :=
  ∀ (q : Str) (body : Expr) (scope : Scope) (cl : List (Str × Addr)) (dV pm cv ctv : Value) (M : Model) (A : Around) (E : Value → Shared → Prop) (s : Shared) (H : Hp) (fs : List Addr) (Q : List (Str × Value) → Shared → Prop),
    DflAt s.heap H fs dV ds → Q (nm.zip ds) s → wpAny M A (bindArgs (lFn q params body scope cl dV pm cv ctv) ⟨[], []⟩) Q E s
theorem lamB0 {params : Arguments} (h : ∀ (q : Str) (body : Expr) (scope : Scope) (cl : List (Str × Addr)) (pm cv ctv : Value), bindArgs (lFn q params body scope cl .none pm cv ctv) ⟨[], []⟩ = pure []) : LamB params [] [] :=
  fun q body scope cl dV pm cv ctv M A E s H fs Q hd hq => by
    have hd : dV = .none := hd
    rw [hd, h]
    exact wpAny_pure hq
theorem lamB1 {params : Arguments} {a : Str} {d : Value} (h : ∀ (q : Str) (body : Expr) (scope : Scope) (cl : List (Str × Addr)) (T : Addr) (pm cv ctv : Value), ∃ k, bindArgs (lFn q params body scope cl (.ref T) pm cv ctv) ⟨[], []⟩ = seqItems? (.ref T) >>= k ∧ k (some #[d]) = pure [(a, d)]) : LamB params [a] [d] :=
  fun q body scope cl dV pm cv ctv M A E s H fs Q hd hq => by
    obtain ⟨T, o, n, rfl, e2, e3, _⟩ := hd
    obtain ⟨k, e, ek⟩ := h q body scope cl T pm cv ctv
    rw [e]
    refine wpAny_bind (wpAny_seqItems e2 e3 ?_)
    rw [show (some [d].toArray : Option (Array Value)) = some #[d] from rfl, ek]
    exact wpAny_pure hq
/-- x(), in the def that got the lambda: Z is that def's context, entered at s -/
theorem pe_act {CXg : CXT} {Eg : XK} {Ng : List Str} {qg : Str} {sg : Scope} {g f c' : Addr} {cdg pm ctv dV : Value} {ds : List Value} {nm : List Str} {params : Arguments} {body : Expr} {scope : Scope} {k i : Nat} {a : Str} {pn : List (Addr × Obj)} {xe : Value → Shared → Prop} {W : WX} {tb : XK → TE} {p1 p2 : Pos}
    (I : Inv X pins σ H s) (L : LamN X.env.scope scope X.N nm) (hf : s.heap.get? f = some (lObj (X.env.qual ++ "<lambda>") params body scope (cloFrom X.env.cells scope.names []) dV pm (.ref c') ctv)) (hfn : H f = none) (hfr : f ∉ X.env.locals :: X.fs)
    (hbind : LamB params nm ds) (hds : DflAt s.heap H (X.env.locals :: X.fs) dV ds)
    (tk : Takes ((cxOf CXg X.prog X.w X.K X.mg X.base Ng qg sg g cdg X.A X.stack s H Eg).tr pn xe) W) (hr : Room (k + 1) (X.A.deeper (envOfC qg sg s.heap.objs.size g cdg)))
    (hbody : ∀ (A : Around) (outer : List Env) (s : Shared) (H : Hp) (E : XK), Room k (A.deeper (lamEnv X scope s.heap.objs.size f c')) → PE (lamCx X A outer s H E scope f c') body (tb E))
    (hN : Ng[i]? = some a) (hv : Vis sg a) (hd : (a == ("__debug__" : Str)) = false := by decide) (hcd : (a == ("__classdict__" : Str)) = false := by decide) :
    PE ((cxOf CXg X.prog X.w X.K X.mg X.base Ng qg sg g cdg X.A X.stack s H Eg).tr pn xe) (.Call (.Name a p1) [] [] p2)
      (fun σZ HZ Q => σZ[i]? = some (some (.ref f)) ∧ HZ c' = some (CodeO c' (X.env.qual ++ "<lambda>")) ∧ tb (fun cls d H' => W cls d σZ H') σ HZ Q) := by
  have nst : ∀ {b : Addr}, b ∉ X.env.locals :: X.fs → b ∉ frs X.stack := fun {b} h z => h (I.stkSub b z)
  refine ⟨fun pinsZ sZ σZ HZ Q IZ h => ?_⟩
  obtain ⟨hs, hc, ht⟩ := h
  refine wpAny_Call_Name_kw (thn ((pe_var (pos := p1) (i := i) hN hv hd hcd).run pinsZ sZ σZ HZ (fun v H1 => v = .ref f ∧ H1 = HZ) IZ ⟨.ref f, hs, rfl, rfl⟩) fun u s1 ⟨v, H1, I1, r1, q1⟩ => ?_)
  obtain ⟨ev, eH⟩ := q1
  subst ev
  rw [eH] at I1
  obtain rfl : u = Value.ref f := r1
  have keep1 : ∀ {b : Addr} {o : Obj}, s.heap.get? b = some o → H b = none → b ∉ X.env.locals :: X.fs → s1.heap.get? b = some o ∧ HZ b = none := fun {b o} e n nf =>
    ⟨I1.base.keep b _ e n (nst nf) (fun z => nomatch (show b ∈ ([] : List Addr) from z)), I1.base.free b _ e n (fun z => nomatch (show b ∈ ([] : List Addr) from z))⟩
  have of1 := (keep1 hf hfn hfr).1
  have ds1 : DflAt s1.heap HZ (X.env.locals :: X.fs) dV ds := by
    cases ds with
    | nil => exact hds
    | cons d r =>
      obtain ⟨T, o, n, e1, e2, e3, e4, e5⟩ := hds
      exact ⟨T, o, n, e1, (keep1 e2 e4 e5).1, e3, (keep1 e2 e4 e5).2, e5⟩
  refine PySem.W.callWith_F0 ⟨_, _, _, _, of1⟩ ?_
  have un : Un (frs X.stack) [] H HZ s.heap s1.heap := I1.base
  obtain ⟨⟨oc, vs, t, hoc, hdc, hvc⟩, _, _⟩ := I1.hok c' _ hc
  have rc : codeAny (model X.prog X.w) (X.A.deeper (envOfC qg sg s.heap.objs.size g cdg)) (.call (.ref f) ⟨[], []⟩) (CR (L2.CX X.prog X.w) (envOfC qg sg s.heap.objs.size g cdg :: X.stack) X.prog X.w HZ s1 Q fun cls d H' => W cls d σZ H') s1 := by
    refine PySem.W.kla_callFunE hr.depth of1 rfl L.co L.gen rfl ⟨c', oc, vs, t, rfl, hoc, hdc, hvc⟩ ?_
    refine hbind _ _ _ _ _ _ _ _ _ _ _ s1 HZ _ _ ds1 ?_
    refine wpAny_newFunctionEnv (fun y hy => (L.own y hy).1) (fun y hy => L.par _ (List.of_mem_zip (by simpa using hy)).1) (fun h₁ hns hsb => ⟨I1.nolimit.fresh _ hsb, ?_⟩) L.kind
    show codeAny _ _ (.expr body (lamEnv X scope s1.heap.objs.size f c')) _ _
    have kp : ∀ b o, s1.heap.get? b = some o → h₁.get? b = some o := fun b o e => hsb.extBut b o (Nat.ne_of_lt (Heap.lt_size e)) (Heap.get?_push_of_some _ e)
    have J : Inv (lamCx X (X.A.deeper (envOfC qg sg s.heap.objs.size g cdg)) (envOfC qg sg s.heap.objs.size g cdg :: X.stack) s1 HZ (fun cls d H' => W cls d σZ H') scope f c') [] σ HZ { s1 with heap := h₁, toks := s1.toks + (nm.zip ds).length } :=
      lam_start I L I1.env0 hr.hd un hns kp
    refine PySem.W.kla_codeExpr (wpAny_mono ((hbody _ _ s1 HZ _ (hr.deeper _)).run [] _ _ HZ Q J ht) (fun v s' hq => ?_) fun e s' hq => hq)
    obtain ⟨w', H', J', rv, q⟩ := hq
    exact ⟨w', H', J'.os, J'.bare, J'.base, J'.hok, rv, q⟩
  refine wpAny_call (codeAny_mono rc fun r s' hq => ?_)
  cases r with
  | error e => exact tk e s' (XE.of_call I1 (fun _ _ _ h => h) hq)
  | ok fl =>
    cases fl with
    | ret u => exact I1.after hq
    | next => exact False.elim hq
    | brk => exact False.elim hq
    | cont => exact False.elim hq
end
/-- a reading that grows with what is wanted -/
def MonoL (tl : XK → Hp → VK → Prop) : Prop := ∀ (E1 E2 : XK) (H : Hp) (Q1 Q2 : VK), (∀ c d H', E1 c d H' → E2 c d H') → (∀ v H', Q1 v H' → Q2 v H') → tl E1 H Q1 → tl E2 H Q2
/-- the def that calls what it got, beside other values vs; TT: what it makes of the lambda's reading -/
def Gives (X : Cx) (Ng : List Str) (x : Str) (sg : Scope) (g : Addr) (cdg : Value) (bg : List Stmt) (a : Str) (q : Str) (k : Nat) (TT : List V → (XK → Hp → VK → Prop) → Hp → VK → Prop) : Prop :=
  ∀ (f c' : Addr) (vs : List V) (s : Shared) (H : Hp) (Q : VK) (tl : XK → Hp → VK → Prop), Room k (X.A.deeper (envOfC x sg s.heap.objs.size g cdg)) →
    (∀ (W : WX) (pn : List (Addr × Obj)) (xe : Value → Shared → Prop) (p1 p2 : Pos), Takes ((cxOf L2.CX0 X.prog X.w X.K X.mg X.base Ng x sg g cdg X.A X.stack s H fun _ _ _ => False).tr pn xe) W →
      PE ((cxOf L2.CX0 X.prog X.w X.K X.mg X.base Ng x sg g cdg X.A X.stack s H fun _ _ _ => False).tr pn xe) (.Call (.Name a p1) [] [] p2) (fun σZ HZ Q => σZ[0]? = some (some (.ref f)) ∧ HZ c' = some (CodeO c' q) ∧ tl (fun cls d H' => W cls d σZ H') HZ Q)) →
    H c' = some (CodeO c' q) → MonoL tl → TT vs tl H Q →
    ∃ t, PSs (cxOf L2.CX0 X.prog X.w X.K X.mg X.base Ng x sg g cdg X.A X.stack s H fun _ _ _ => False).nox bg t ∧ t { nx := fun _ H' => Q .non H', rt := Q } (L2.start Ng (.ref f :: vs)) H
def tLam2 (T : List (Addr × Str)) (vs : List V) (TT : List V → (XK → Hp → VK → Prop) → Hp → VK → Prop) (t : XK → TE) : TE := fun σ H Q => Tabs T H ∧ ∀ H1, ExtN H H1 → Tabs T H1 → TT vs (fun E H' Q' => t E σ H' Q') H1 Q
section
variable {X : Cx}
/-- x(lambda: body, rest ..), rest written constants -/
theorem pe_lam {T : List (Addr × Str)} {vs : List V} {TT : List V → (XK → Hp → VK → Prop) → Hp → VK → Prop} {x a : Str} {g c P : Addr} {k : Nat} {pg : Arguments} {bg : List Stmt} {sg : Scope} {dV kV doc pm cdv ct oc : Value} {an od : Option Addr} {osl : Array (Option Value)} {Ng ps nm : List Str}
    {params : Arguments} {body : Expr} {rest : List Expr} {tr : TA} {dts : List Int} {scope : Scope} {t : XK → TE} {p lpos pos : Pos} (hg : Gl X x) (hm : X.mg x = some (.ref g)) (hk : PySem.W.keepIn X.K (.ref g) = true)
    (lk : X.K.lookup g = some ⟨oc, od, .func (PySem.W.fnOf x x pg bg sg dV kV doc pm an cdv ct), osl⟩) (hcg : PySem.W.codeIn X.K cdv x = true) (hb : L2.Binds X.K (PySem.W.fnOf x x pg bg sg dV kV doc pm an cdv ct) (a :: ps) []) (Sg : FnScope Ng (a :: ps) sg) (hNg : Ng[0]? = some a) (hva : Vis sg a)
    (hG : Gives X Ng x sg g cdv bg a (X.env.qual ++ "<lambda>") (k + 1) TT)
    (TB : TabB X.base X.mg c P) (hcode : X.env.code = .ref c) (hmT : (P, X.env.qual ++ "<lambda>") ∈ T) (hu : ∀ p ∈ T, p.1 = P → p.2 = X.env.qual ++ "<lambda>") (hr : Room (k + 2) X.A) (L : LamN X.env.scope scope X.N nm)
    (hdef : (dts = [] ∧ defaultsOf params X.env = ([], [])) ∨ ∃ n j dp, dts = [n] ∧ defaultsOf params X.env = ([eval (.Constant (.int n) j dp) X.env], []))
    (hbind : ∀ ds : List Value, Vals (dts.map V.int) ds → LamB params nm ds)
    (hmono : ∀ σ : L2.St, MonoL fun E H' Q' => t E σ H' Q') (hrest : PA X rest tr) (htr : ∀ σ H Q, tr σ H Q = Q vs H) (hvl : vs.length = ps.length)
    (hbody : ∀ (A : Around) (outer : List Env) (s : Shared) (H : Hp) (E : XK) (f c' : Addr), Room k (A.deeper (lamEnv X scope s.heap.objs.size f c')) → PE (lamCx X A outer s H E scope f c') body (t E))
    (he : starEach (.Lambda params body scope lpos :: rest) X.env = (false, eval (.Lambda params body scope lpos) X.env) :: starEach rest X.env := by rfl) (hpl : (backTo pos (starEach rest X.env)).any (·.1) = false := by rfl)
    (hdb : (x == ("__debug__" : Str)) = false := by decide) (hd : (a == ("__debug__" : Str)) = false := by decide) (hcd : (a == ("__classdict__" : Str)) = false := by decide) :
    PE X (.Call (.Name x p) (.Lambda params body scope lpos :: rest) [] pos) (tLam2 T vs TT t) := by
  refine ⟨fun pins s σ H Q I h => ?_⟩
  obtain ⟨hT, h⟩ := h
  refine wpAny_Call_Name_kw (ld_glob I hg hm ?_ hdb)
  refine PySem.W.callWith_K (h₀ := X.base) I.ok.mod.kin hk ?_ he hpl
  rw [he]
  show wpAny _ _ (spliced ((false, eval (.Lambda params body scope lpos) X.env) :: backTo pos (starEach rest X.env))) _ _ s
  -- from the making of the object on
  have go : ∀ (s0 : Shared) (dV : Value) (ds : List Value), Inv X pins σ H s0 → Vals (dts.map V.int) ds → DflAt s0.heap H (X.env.locals :: X.fs) dV ds →
      wpAny (model X.prog X.w) X.A (PySem.makeTail "<lambda>" (X.env.qual ++ "<lambda>") params (.expr body) scope X.env dV .none none lpos lpos.line)
        (fun u s1 => wpAny (model X.prog X.w) X.A (spliced (backTo pos (starEach rest X.env))) (fun us s2 => X.K.In s2.heap ∧ wpAny (model X.prog X.w) X.A (call (.ref g) ([] ++ u :: us)) (EP X pins σ Q) X.xe s2) X.xe s1) X.xe s0 := by
    intro s0 dV ds I0 rd hd0
    refine lam_tail I0 TB hcode hmT hu hT (L.has I0.ok) hd0 fun f c' pm' ctv H1 s' I1 eN T1 hd1 hf hfn hfL hfF hco => ?_
    obtain ⟨pl, hpl1, hpl2⟩ : ∃ pl : List (Addr × Obj), (∀ p ∈ pl, s'.heap.get? p.1 = some p.2 ∧ H1 p.1 = none ∧ p.1 ≠ X.env.locals ∧ p.1 ∉ X.fs ∧ ∀ v, p.2.data ≠ .cell v) ∧ (∀ h2 : Heap, (∀ p ∈ pl, h2.get? p.1 = some p.2) → DflAt h2 H1 (X.env.locals :: X.fs) dV ds) := by
      cases ds with
      | nil => exact ⟨[], (fun p hp => nomatch hp), fun _ _ => hd1⟩
      | cons d r =>
        obtain ⟨Td, o, n, e1, e2, e3, e4, e5⟩ := hd1
        refine ⟨[(Td, o)], fun p hp => ?_, fun h2 k => ⟨Td, o, n, e1, k _ List.mem_cons_self, e3, e4, e5⟩⟩
        obtain rfl : p = (Td, o) := by simpa using hp
        exact ⟨e2, e4, fun z => e5 (by rw [show Td = X.env.locals from z]; exact List.mem_cons_self), fun z => e5 (List.mem_cons_of_mem _ z), fun v z => by
          have z' : o.data = .cell v := z
          rw [e3] at z'
          cases z'⟩
    have J : Inv X (pins ++ ((f, _) :: pl)) σ H1 s' := I1.pins_of (pins' := pins ++ ((f, lObj (X.env.qual ++ "<lambda>") params body scope (cloFrom X.env.cells scope.names []) dV pm' (.ref c') ctv) :: pl)) fun p hp => by
      rcases List.mem_append.mp hp with hp | hp
      · exact I1.pin p (List.mem_append_right _ hp)
      · rcases List.mem_cons.mp hp with e | hp
        · rw [e]
          exact ⟨hf, hfn, hfL, hfF, fun v z => nomatch z⟩
        · exact hpl1 p hp
    refine thn (hrest.run pos _ s' σ H1 (fun vs' H' => vs' = vs ∧ H' = H1) J (by rw [htr]; exact ⟨rfl, rfl⟩)) fun us s2 ⟨vs', H2, I2, r2, e1, e2⟩ => ?_
    subst e1
    rw [e2] at I2
    have hf2 := (I2.pin (f, _) (List.mem_append_right _ (List.mem_append_right _ List.mem_cons_self))).1
    have hd2 : DflAt s2.heap H1 (X.env.locals :: X.fs) dV ds := hpl2 _ fun p hp => (I2.pin p (List.mem_append_right _ (List.mem_append_right _ (List.mem_cons_of_mem _ hp)))).1
    have I3 : Inv X pins σ H1 s2 := I2.unpinned
    refine ⟨I3.kIn, ?_⟩
    have rv : Vals (V.ref f :: vs') (Value.ref f :: us) := .cons rfl r2
    have hlen : (Value.ref f :: us).length = (a :: ps).length := by
      rw [← rv.length, List.length_cons, List.length_cons, hvl]
    have rc : codeAny (model X.prog X.w) X.A (.call (.ref g) ⟨.ref f :: us, []⟩) (CR L2.CX0 X.stack X.prog X.w H1 s2 Q fun _ _ _ => False) s2 := by
      refine run_ofS (N := Ng) (ps := a :: ps) (us := .ref f :: us) (vs := .ref f :: vs') lk hcg Sg hr I3.env0 (by have z := hb s2 (Value.ref f :: us) I3.kIn (by rw [List.append_nil]; exact hlen); rw [List.append_nil] at z; exact z) rv (by rw [List.length_cons, List.length_cons, hvl]) fun hr' => ?_
      obtain ⟨t', ht', hq'⟩ := hG f c' vs' s2 H1 Q (fun E H' Q' => t E σ H' Q') hr' (fun W pn xe p1 p2 tk => pe_act (i := 0) I3 L hf2 hfn (fun z => (List.mem_cons.mp z).elim hfL hfF) (hbind ds rd) hd2 tk hr' (fun A outer s H E hr2 => hbody A outer s H E f c' hr2) hNg hva hd hcd) hco (hmono σ) (h H1 eN T1)
      exact ⟨t', ht'.nox, hq'⟩
    refine wpAny_call (codeAny_mono rc fun r s3 hq => ?_)
    cases r with
    | error e => exact (show False from hq).elim
    | ok fl =>
      cases fl with
      | ret u => exact I3.after hq
      | next => exact False.elim hq
      | brk => exact False.elim hq
      | cont => exact False.elim hq
  refine Calls.spliced_cons ?_
  rw [PySem.arm_eval_Lambda]
  rcases hdef with ⟨rfl, hdef⟩ | ⟨n, j, dp, rfl, hdef⟩
  · rw [hdef]
    refine wpAny_bind (wpAny_pure (wpAny_bind (wpAny_holding (wpAny_pure ?_))))
    rw [PySem.makeFunction_eq]
    simp only [List.zip_nil_right, List.filterMap_nil, List.isEmpty_nil, if_true, pure_bind]
    exact go s .none [] I .nil rfl
  · rw [hdef]
    refine wpAny_bind (m := evalAll [eval (.Constant (.int n) j dp) X.env]) ?_
    unfold evalAll evalAll
    refine wpAny_bind (thn ((pe_int (X := X) (i := n) (j := j) (pos := dp)).run pins s σ H (fun v H' => v = .int n ∧ H' = H) I ⟨rfl, rfl⟩) fun u s1 ⟨v, H1, I1, r1, e1, e2⟩ => ?_)
    subst e1
    rw [e2] at I1
    refine wpAny_bind (wpAny_holding (wpAny_pure (wpAny_pure ?_)))
    refine wpAny_bind (wpAny_holding (wpAny_pure ?_))
    rw [PySem.makeFunction_eq]
    simp only [List.zip_nil_right, List.filterMap_nil, List.isEmpty_nil, List.isEmpty_cons, Bool.false_eq_true, if_true, if_false, pure_bind]
    refine wpAny_bind (wpAny_newTextTuple ?_)
    have sz : s1.heap.objs.size ≤ s1.heap.objs.size := Nat.le_refl _
    refine go _ (.ref s1.heap.objs.size) [u] (I1.kept (t' := s1.toks) fun b o e => Heap.get?_push_of_some _ e) (.cons r1 .nil) ⟨_, _, _, rfl, Heap.get?_push_size _ rfl, rfl, I1.hok.fresh sz, fun z => ?_⟩
    rcases List.mem_cons.mp z with z | z
    · exact Nat.lt_irrefl _ (show s1.heap.objs.size < s1.heap.objs.size by
        have q := I1.lt
        rw [← z] at q
        exact q)
    · exact I1.nofs sz z
end
end OB
/-! What a law draws from: a list of a list of ints, how many draws were made, what is left of a great one. -/
namespace OB
open PySem PySem.Spec PyProof.Rows L2
/-- the lot stands at p, its ints at b; at most n draws were made -/
def Orch (H : Hp) (p b : Addr) (n : Nat) : Prop := ∃ (ns : List Int) (t l : Int), H p = some (.lst [.ref b, .int t, .int l]) ∧ H b = some (.lst (ns.map V.int)) ∧ 0 ≤ t ∧ t ≤ n
theorem Orch.ne {H : Hp} {p b : Addr} {n : Nat} (o : Orch H p b n) : p ≠ b := by
  obtain ⟨ns, t, l, h1, h2, _⟩ := o
  refine ne_of h1 h2 fun z => ?_
  injection z with z
  cases ns with
  | nil => cases z
  | cons a r =>
    injection z with z _
    cases z
theorem Orch.keep {H H' : Hp} {p b : Addr} {n : Nat} (o : Orch H p b n) (hp : ∀ u, H p = some u → H' p = some u) (hb : ∀ u, H b = some u → H' b = some u) : Orch H' p b n := by
  obtain ⟨ns, t, l, h1, h2, h3⟩ := o
  exact ⟨ns, t, l, hp _ h1, hb _ h2, h3⟩
theorem Orch.same {H H' : Hp} {p b : Addr} {n : Nat} (o : Orch H p b n) (s : Same H H') : Orch H' p b n := o.keep (fun u => s p u) fun u => s b u
theorem Orch.mono {H : Hp} {p b : Addr} {n m : Nat} (o : Orch H p b n) (h : n ≤ m) : Orch H p b m := by
  obtain ⟨ns, t, l, h1, h2, h3, h4⟩ := o
  exact ⟨ns, t, l, h1, h2, h3, by omega⟩
theorem Orch.pn {H : Hp} {p b : Addr} {n : Nat} (o : Orch H p b n) : ∃ u, H p = some u := by
  obtain ⟨ns, t, l, h1, h2, h3, h4⟩ := o
  exact ⟨_, h1⟩
theorem Orch.bn {H : Hp} {p b : Addr} {n : Nat} (o : Orch H p b n) : ∃ u, H b = some u := by
  obtain ⟨ns, t, l, h1, h2, h3, h4⟩ := o
  exact ⟨_, h2⟩
/-- all that was tracked is as it was, but what stands at p -/
def But (p : Addr) (H H' : Hp) : Prop := ∀ q o, H q = some o → q ≠ p → H' q = some o
theorem But.refl {p : Addr} {H : Hp} : But p H H := fun _ _ h _ => h
theorem But.of {p : Addr} {H H' : Hp} (s : Same H H') : But p H H' := fun q o h _ => s q o h
theorem But.trans {p : Addr} {H H1 H2 : Hp} (a : But p H H1) (b : But p H1 H2) : But p H H2 := fun q o h n => b q o (a q o h n) n
theorem same_new {H : Hp} {l : Addr} {o : HO} (h : H l = none) : Same H (upd H l o) := fun b u e => by
  rw [upd_ne (ne_of_none e h)]
  exact e
theorem but_at {H : Hp} {p : Addr} {o : HO} : But p H (upd H p o) := fun q u e n => by
  rw [upd_ne n]
  exact e
/-- a draw from many: some number below many; the lot goes on -/
def spDraw : Sp := fun vs H Q _ => ∃ (p b : Addr) (n : Nat) (many : Int), vs = [.ref p, .int many] ∧ Orch H p b n ∧ n < 1000000 ∧ 0 < many ∧ many.natAbs < 2 ^ 9000 ∧
  ∀ (r : Int) (H' : Hp), 0 ≤ r → r < many → Orch H' p b (n + 1) → But p H H' → Q (.int r) H'
/-- the lot is made of a list of ints -/
def spLot (K : PySem.W.Frag) : Sp := fun vs H Q _ => ∃ (a : Addr) (ns : List Int), vs = [.ref a] ∧ SqL K H a (ns.map V.int) ∧ ns.length ≤ 63 ∧
  ∀ (p b : Addr) (H' : Hp), H p = none → H b = none → Orch H' p b 0 → Same H H' → Q (.ref p) H'
theorem mix1 {x t A B m : Int} (hm : 0 < m) (hm2 : m < 2 ^ 31) (ht : 0 ≤ t) (ht2 : t ≤ 1000000) (hA : 0 ≤ A) (hA2 : A ≤ 1000000) (hB : 0 ≤ B) (hB2 : B ≤ 1000000) : (x % m + A * t + B).natAbs < 2 ^ 64 := by
  have h1 := Int.emod_nonneg x (by omega : m ≠ 0)
  have h2 := Int.emod_lt_of_pos x hm
  have h3 : A * t ≤ 1000000 * 1000000 := Int.mul_le_mul hA2 ht2 ht (by decide)
  have h4 : 0 ≤ A * t := Int.mul_nonneg hA ht
  omega
theorem mix2 {x t A B C m : Int} (hm : 0 < m) (hm2 : m < 2 ^ 31) (ht : 0 ≤ t) (ht2 : t ≤ 1000000) (hA : 0 ≤ A) (hA2 : A ≤ 1000000) (hB : 0 ≤ B) (hB2 : B ≤ 1000000) (hC : 0 ≤ C) (hC2 : C ≤ 1000000) : (x % m * (2 * t + C) + A * t * t + B).natAbs < 2 ^ 64 := by
  have h1 := Int.emod_nonneg x (by omega : m ≠ 0)
  have h2 := Int.emod_lt_of_pos x hm
  have h3 : A * t ≤ 1000000 * 1000000 := Int.mul_le_mul hA2 ht2 ht (by decide)
  have h4 : 0 ≤ A * t := Int.mul_nonneg hA ht
  have h5 : A * t * t ≤ 1000000 * 1000000 * 1000000 := Int.mul_le_mul h3 ht2 ht (by decide)
  have h6 : 0 ≤ A * t * t := Int.mul_nonneg h4 ht
  have h7 : x % m * (2 * t + C) ≤ 2 ^ 31 * 3000000 := Int.mul_le_mul (by omega) (by omega) (by omega) (by decide)
  have h8 : 0 ≤ x % m * (2 * t + C) := Int.mul_nonneg h1 (by omega)
  omega
theorem mod_lim {x m : Int} (hm : 0 < m) (hm2 : m < 2 ^ 31) : -(2 ^ 64) < x % m ∧ x % m < 2 ^ 64 := by
  have h1 := Int.emod_nonneg x (by omega : m ≠ 0)
  have h2 := Int.emod_lt_of_pos x hm
  omega
theorem dp_ints {K : PySem.W.Frag} {H : Hp} : ∀ ns : List Int, DpAll K H (ns.map V.int) (ns.map PyData.int)
  | [] => .nil
  | n :: r => .cons (.int n) (dp_ints r)
theorem lay_ints : ∀ ns : List Int, PyData.canLayAll0 (ns.map PyData.int) = true
  | [] => by simp [PyData.canLayAll0]
  | n :: r => by simp [PyData.canLayAll0, PyData.canLay0, lay_ints r]
theorem deep_ints : ∀ ns : List Int, PyData.depthAll (ns.map PyData.int) ≤ 1
  | [] => by simp [PyData.depthAll]
  | n :: r => by
    have h := deep_ints r
    simp [PyData.depthAll, PyData.depth]
    omega
theorem shaped_ints (ns : List Int) : SeqAt.shaped (.list (ns.map PyData.int)) = true := by
  have h := deep_ints ns
  unfold SeqAt.shaped
  rw [Bool.and_eq_true]
  refine ⟨by simp [PyData.canLay0, lay_ints], decide_eq_true ?_⟩
  simp [PyData.depth]
  omega
theorem eqv_nil (ns : List Int) : PyData.eqv (.list (ns.map PyData.int)) (.list []) = decide (ns = []) := by
  cases ns with
  | nil => simp [PyData.eqv, PyData.eqvAll]
  | cons n r => simp [PyData.eqv, PyData.eqvAll]

/-! ### kinds of values: is it an integer -/
/-- x is of a kind of which isinstance(x, int) and not isinstance(x, bool) is b -/
def IsI (K : PySem.W.Frag) (H : Hp) (x : V) (b : Bool) : Prop := ∃ (n : String) (b1 b2 : Bool), TyX K H x (.type n) ∧ kitB n "int" = some b1 ∧ kitB n "bool" = some b2 ∧ b = (b1 && !b2)
section
variable {K : PySem.W.Frag} {H : Hp}
theorem isI_int (i : Int) : IsI K H (.int i) true := ⟨"int", true, false, .base (.int i), by decide +kernel, by decide +kernel, rfl⟩
theorem isI_non : IsI K H .non false := ⟨"NoneType", false, false, .base .non, by decide +kernel, by decide +kernel, rfl⟩
theorem isI_bl (b : Bool) : IsI K H (.bl b) false := ⟨"bool", true, true, .base (.bl b), by decide +kernel, by decide +kernel, rfl⟩
theorem isI_str (x : Str) : IsI K H (.str x) false := ⟨"str", false, false, .base (.str x), by decide +kernel, by decide +kernel, rfl⟩
theorem isI_lst {a : Addr} {xs : List V} (e : H a = some (.lst xs)) : IsI K H (.ref a) false := ⟨"list", false, false, .base (.lst e), by decide +kernel, by decide +kernel, rfl⟩
theorem isI_tup {a : Addr} {xs : List V} (e : H a = some (.tup xs)) : IsI K H (.ref a) false := ⟨"tuple", false, false, .base (.tup e), by decide +kernel, by decide +kernel, rfl⟩
theorem isI_dK {a : Addr} {kvs : List (Key × V)} (e : H a = some (.dK kvs)) : IsI K H (.ref a) false := ⟨"dict", false, false, .base (.dK e), by decide +kernel, by decide +kernel, rfl⟩
theorem isI_true {x : V} (h : IsI K H x true) : ∃ i, x = .int i := by
  obtain ⟨n, b1, b2, ty, e1, e2, e3⟩ := h
  have c1 : b1 = true := by
    cases b1
    · simp at e3
    · rfl
  have c2 : b2 = false := by
    cases b2
    · rfl
    · simp [c1] at e3
  subst c1 c2
  have no : ∀ {m : String}, kitB m "int" ≠ some true ∨ kitB m "bool" ≠ some false → n = m → False := fun h e => by
    subst e
    exact h.elim (fun z => z e1) fun z => z e2
  cases ty with
  | base h =>
    cases h with
    | int i => exact ⟨i, rfl⟩
    | non => exact (no (m := "NoneType") (.inl (by decide +kernel)) rfl).elim
    | bl b => exact (no (m := "bool") (.inr (by decide +kernel)) rfl).elim
    | str b => exact (no (m := "str") (.inl (by decide +kernel)) rfl).elim
    | flt b => exact (no (m := "float") (.inl (by decide +kernel)) rfl).elim
    | lst e => exact (no (m := "list") (.inl (by decide +kernel)) rfl).elim
    | frz e => exact (no (m := "list") (.inl (by decide +kernel)) rfl).elim
    | tup e => exact (no (m := "tuple") (.inl (by decide +kernel)) rfl).elim
    | dK e => exact (no (m := "dict") (.inl (by decide +kernel)) rfl).elim
    | dT e => exact (no (m := "dict") (.inl (by decide +kernel)) rfl).elim
  | byt b => exact (no (m := "bytes") (.inl (by decide +kernel)) rfl).elim
  | set e => exact (no (m := "set") (.inl (by decide +kernel)) rfl).elim
  | kList e c => exact (no (m := "list") (.inl (by decide +kernel)) rfl).elim
  | kTuple e c => exact (no (m := "tuple") (.inl (by decide +kernel)) rfl).elim
  | kDict e c => exact (no (m := "dict") (.inl (by decide +kernel)) rfl).elim
  | fTuple e => exact (no (m := "tuple") (.inl (by decide +kernel)) rfl).elim
  | fDict e => exact (no (m := "dict") (.inl (by decide +kernel)) rfl).elim
end
/-- a bound: an int or none -/
def oV : Option Int → V
  | none => .non
  | some i => .int i
def loOk (lo : Option Int) (i : Int) : Bool := match lo with
  | none => true
  | some l => decide (l ≤ i)
def hiOk (hi : Option Int) (i : Int) : Bool := match hi with
  | none => true
  | some h => decide (i ≤ h)
/-- an int within bounds -/
def inB (lo hi : Option Int) : V → Bool
  | .int i => loOk lo i && hiOk hi i
  | _ => false
def spIsInt (K : PySem.W.Frag) : Sp := fun vs H Q _ => ∃ (x : V) (b : Bool), vs = [x] ∧ IsI K H x b ∧ Q (.bl b) H
def spWithin (K : PySem.W.Frag) : Sp := fun vs H Q _ => ∃ (x : V) (lo hi : Option Int) (b : Bool), vs = [x, oV lo, oV hi] ∧ IsI K H x b ∧ Q (.bl (b && inB lo hi x)) H
/-- what raises the error at C, with its part, else returns None -/
def RaisesP (C : Addr) (part : Str) (E : XK) (H : Hp) : Prop := ∀ d, H d = none → E (.ref C) (some d) (upd H d (.xd [(("part" : Str), .str part)]))
def spNeedNumber (K : PySem.W.Frag) (C : Addr) : Sp := fun vs H Q E => ∃ (x : V) (part : Str) (lo hi : Option Int) (b : Bool), vs = [x, .str part, oV lo, oV hi] ∧ IsI K H x b ∧
  ((b && inB lo hi x) = true → Q .non H) ∧ ((b && inB lo hi x) = false → RaisesP C part E H)
def spNeedWord (K : PySem.W.Frag) (C : Addr) : Sp := fun vs H Q E => ∃ (x : V) (part : Str) (b : Bool), vs = [x, .str part] ∧ IsI K H x b ∧
  ((b && inB (some 0) none x) = true → Q .non H) ∧ ((b && inB (some 0) none x) = false → RaisesP C part E H)
/-- where nothing is raised the promise holds among calm ones -/
theorem calm_of {P : Program} {w : World} {K : PySem.W.Frag} {mg : Str → Option Value} {base : Heap} {k : Nat} {f : Addr} {fd : FuncData} {ps : List Str} {sp : Sp} (F : FnOk P w K mg base (L2.CX P w) k f fd ps sp) :
    FnOk P w K mg base CX0 k f fd ps (fun vs H Q _ => sp vs H Q fun _ _ _ => False) :=
  ⟨fun vs H Q E h => F.len vs H Q _ h, fun A outer s H args us vs Q E hr he hb hv hs => codeAny_mono (F.run A outer s H args us vs Q _ hr he hb hv hs) fun r s' hq => by
    cases r with
    | error e =>
      obtain ⟨_, _, _, _, _, _, _, _, _, _, _, _, z⟩ := hq
      exact z.elim
    | ok fl => cases fl <;> exact hq⟩
theorem iteB {b : Bool} {A B : Prop} (h1 : b = true → A) (h2 : b = false → B) : if b = true then A else B := by
  cases b with
  | true => exact iteT (h1 rfl)
  | false => exact iteF (h2 rfl)
end OB
/-! Own errors with one field, raised. -/
namespace OB
open PySem PySem.Spec PyProof.Rows L2
/-- a def of the text, as it stands behind the top -/
structure Df (K : PySem.W.Frag) (mg : Str → Option Value) (x : Str) (st : Stmt) (ps : List Str) (f : Addr) (fd : FuncData) : Prop where
  F : Fun K x x st f fd
  g : mg x = some (.ref f)
  b : Binds K fd ps []
/-- __init__(self, f): self.f = f of an own error -/
def spInit1 (K : PySem.W.Frag) (f : Str) : Sp := fun vs H Q _ => ∃ (a C : Addr) (v : V), vs = [.ref a, v] ∧ OexC K C ∧ PySem.W.findIn K (.ref C) f = some none ∧ H a = some (exo a C none) ∧
  ∀ dx, H dx = none → dx ≠ a → Q .non (upd (upd H dx (exd dx [(f, v)])) a (exo a C (some dx)))
section
variable {P : Program} {w : World} {K : PySem.W.Frag} {mg : Str → Option Value} {base : Heap}
theorem ok_init1 {qual : Str} {st : Stmt} {fI : Addr} {fd : FuncData} {f : Str} {p1 p2 p3 p4 : Pos} (F : Fun K "__init__" qual st fI fd) (S : FnScope ["self", f] ["self", f] (defScope st))
    (hb : defBody st = [.Assign [.Attribute (.Name "self" p1) f p2] (.Name f p3) p4])
    (hv : Vis (defScope st) f) (hs : Vis (defScope st) "self") (hd : (f == ("__debug__" : Str)) = false := by decide) (hcd : (f == ("__classdict__" : Str)) = false := by decide)
    (hsw : ∀ env : Env, swapsWith (.Name f p3) (some (.Attribute (.Name "self" p1) f p2)) p4.line env = pure false := by intro _; rfl) :
    FnOk P w K mg base CX0 1 fI fd ["self", f] (spInit1 K f) := by
  refine F.ok S (fun vs H Q E h => ?_) (fun cdv A outer s H vs Q E hr h => ?_)
  · obtain ⟨a, C, v, rfl, _⟩ := h
    rfl
  · obtain ⟨a, C, v, rfl, T, no, ha, k⟩ := h
    rw [hb]
    refine ⟨_, pss_one (ps_ost (pe_var (i := 0) rfl hs) (pe_var (i := 1) rfl hv hd hcd) (hsw _)), ?_⟩
    exact ⟨v, rfl, .ref a, rfl, a, C, rfl, T, no, .inl ⟨ha, fun dx n ne => k dx n ne⟩⟩
/-- an own error class with one field, as the top leaves it -/
structure Err (P : Program) (w : World) (K : PySem.W.Frag) (mg : Str → Option Value) (base : Heap) (x f : Str) (C fI : Addr) (fd : FuncData) : Prop where
  T : OexC K C
  iC : PySem.W.findIn K (.ref C) "__init__" = some (some (.ref fI))
  tI : PySem.W.typeIn K (.ref fI) = some (.type "function")
  F : FnOk P w K mg base CX0 1 fI fd ["self", f] (spInit1 K f)
  b : Binds K fd ["self", f] []
  g : mg x = some (.ref C)
  no : PySem.W.findIn K (.ref C) f = some none
theorem del_back {H : Hp} {a d : Addr} {o1 o2 o3 o4 : HO} (ha : H a = none) (n : d ≠ a) : upd (del (upd (upd (upd H a o1) d o2) a o3) a) d o4 = upd H d o4 := by
  funext b
  by_cases e : b = d
  · rw [e, upd_same, upd_same]
  · rw [upd_ne e, upd_ne e]
    by_cases e2 : b = a
    · rw [e2, del_same, ha]
    · rw [del_ne e2, upd_ne e2, upd_ne e, upd_ne e2]
end
/-- raise X(e) -/
def tRaise1 (K : PySem.W.Frag) (C : Addr) (f : Str) (W : WX) (te : TE) : TS := fun _ σ H => tMkO C (spInit1 K f) [] (tCons te tNil) σ H fun cls d H' => W cls d σ H'
theorem raise1_of {K : PySem.W.Frag} {C : Addr} {f : Str} {W : WX} {σ : L2.St} {H1 : Hp} {v : V} (T : OexC K C) (no : PySem.W.findIn K (.ref C) f = some none) (h : ∀ d, H1 d = none → W (.ref C) (some d) σ (upd H1 d (.xd [(f, v)]))) :
    tNil σ H1 fun xs H2 => (v :: xs).length ≤ 1000 ∧ ∀ a, H2 a = none → spInit1 K f (.ref a :: ((v :: xs) ++ [])) (upd H2 a (exo a C none))
      (fun u H3 => u = .non ∧ ∃ (d : Addr) (fs : List (Str × V)), H3 a = some (exo a C (some d)) ∧ H3 d = some (exd d fs) ∧ H2 d = none ∧ W (.ref C) (some d) σ (upd (del H3 a) d (.xd fs))) (fun _ _ _ => False) := by
  refine ⟨by show 1 ≤ 1000; decide, fun a ha => ⟨a, C, v, rfl, T, no, upd_same, fun dx nd ne => ?_⟩⟩
  rw [upd_ne ne] at nd
  refine ⟨rfl, dx, [(f, v)], upd_same, ?_, nd, ?_⟩
  · rw [upd_ne ne, upd_same]
  · rw [del_back ha ne]
    exact h dx nd
theorem ps_raise1 {X : Cx} {W : WX} {x f : Str} {C fI : Addr} {fd : FuncData} {e : Expr} {te : TE} {p p2 pos : Pos} (hc : X.calm = true) (tk : Takes X W) (R : Err X.prog X.w X.K X.mg X.base x f C fI fd) (hr : Room 2 X.A) (hg : Gl X x) (he : PE X e te)
    (hx : Passes CX0 X (fun _ _ _ => False) := by exact pass0) (hs : starEach [e] X.env = [(false, eval e X.env)] := by rfl) (hdb : (x == ("__debug__" : Str)) = false := by decide) :
    PS X (.Raise (some (.Call (.Name x p) [e] [] p2)) none pos) (tRaise1 X.K C f W te) :=
  ps_raise (pos := pos) hc tk (pmk_oex (p := p) (pos := p2) R.T R.iC R.tI R.F hr R.b .nil hx hg R.g (pa_cons he pa_nil hs) hdb hs)
section
variable {X : Cx}
/-- 1 << k -/
theorem op_oneN : OpR X (binaryOp .LShift) (fun x y H Q => ∃ k : Nat, x = .int 1 ∧ y = .int (k : Int) ∧ k ≤ 1000000 ∧ Q (.int ((2 ^ k : Nat) : Int)) H) := by
  intro pins s σ H x y v u Q I rx ry h
  obtain ⟨k, rfl, rfl, c, q⟩ := h
  refine op_shl pins s σ H _ _ v u Q I rx ry ⟨_, _, rfl, rfl, ⟨Int.natCast_nonneg _, by omega, by decide⟩, ?_⟩
  have e : (1 : Int) * 2 ^ ((k : Int)).toNat = ((2 ^ k : Nat) : Int) := by
    rw [Int.one_mul, Int.toNat_natCast, Int.natCast_pow]
    rfl
  show Q (.int ((1 : Int) * 2 ^ ((k : Int)).toNat)) H
  rw [e]
  exact q
end
theorem pow_lt9 {i : Nat} (h : i ≤ 8000) : ((2 ^ i : Nat) : Int).natAbs < 2 ^ 9000 := by
  rw [Int.natAbs_natCast]
  exact Nat.pow_lt_pow_right (by decide) (by omega)
section
variable {X : Cx} {CX : CXT} {k : Nat} {f : Addr} {fd : FuncData} {ps ks : List Str} {sp : Sp} {E : XK} {x : Str} {p pos : Pos} {kws : List Keyword} {tk : TA} {g : List Value → List Value → List Value} {gV : List V → List V → List V}
/-- f(k = v, ..): keywords alone -/
theorem pe_callKo (F : FnOk X.prog X.w X.K X.mg X.base CX k f fd ps sp) (hr : Room k X.A) (hg : Gl X x) (hm : X.mg x = some (.ref f)) (hk : PySem.W.keepIn X.K (.ref f) = true) (hb : KBinds X.K fd ps ks g gV) (hx : Passes CX X E)
    (hkw : PK X kws tk) (hall : (backToKw pos (keywordEach kws X.env)).all (·.1.isSome) = true := by rfl) (hks : (backToKw pos (keywordEach kws X.env)).filterMap (·.1) = ks := by rfl)
    (hdb : (x == ("__debug__" : Str)) = false := by decide)
    (hpl : ((backTo pos (starEach [] X.env)).any (·.1) || (backToKw pos (keywordEach kws X.env)).any (·.1.isNone)) = false := by rfl) :
    PE X (.Call (.Name x p) [] kws pos) (tCallK sp gV E tNil tk) := by
  refine ⟨fun pins s σ H Q I h => ?_⟩
  refine wpAny_Call_Name_kw (ld_glob I hg hm ?_ hdb)
  refine PySem.W.callWith_KW0 (h₀ := X.base) I.ok.mod.kin hk hall ?_ hpl
  refine thn (hkw.run pos pins s σ H _ I h) fun ws s2 ⟨zs, H2, I2, rz, q2⟩ => ⟨I2.kIn, ?_⟩
  rw [hks]
  exact run_fnk (us := []) F hr hb hx I2 .nil rz q2
end
/-- how the keywords of a def without defaults bind -/
theorem kbinds {K : PySem.W.Frag} {x qual : Str} {st : Stmt} {f : Addr} {fd : FuncData} {ps ks : List Str} {g : List Value → List Value → List Value} {gV : List V → List V → List V} (F : Fun K x qual st f fd)
    (h : ∀ (kV doc pm : Value) (an : Option Addr) (cdv ct : Value) (us ws : List Value), (g us ws).length = ps.length → bindArgs (PySem.W.fnOf x qual (defArgs st) (defBody st) (defScope st) .none kV doc pm an cdv ct) ⟨us, ks.zip ws⟩ = pure (ps.zip (g us ws)))
    (r : ∀ {vs : List V} {us : List Value} {zs : List V} {ws : List Value}, Vals vs us → Vals zs ws → Vals (gV vs zs) (g us ws)) : KBinds K fd ps ks g gV := by
  obtain ⟨oc, od, kV, doc, pm, an, cdv, ct, osl, rfl, lk, hcd⟩ := F.ex
  exact ⟨fun s us ws _ hl => .of_eq (h kV doc pm an cdv ct us ws hl), r⟩
theorem inB_nat (m : Nat) : inB (some 0) none (.int (m : Int)) = true := by
  show (decide ((0 : Int) ≤ (m : Int)) && true) = true
  rw [decide_eq_true (Int.natCast_nonneg m)]
  rfl
/-- isinstance asks by the table of classes -/
theorem kit_sub {K : PySem.W.Frag} {t : Value} {C : Addr} {b : Bool} (h1 : PySem.W.isClsIn K C = true) (h2 : PySem.W.typeIn K (.ref C) = some (.type "type")) (self : PySem.W.subIn K (.ref C) (.ref C) = some true) (h : PySem.W.subIn K t (.ref C) = some b) :
    PySem.W.kitOne K t (.ref C) = some b := by
  unfold PySem.W.kitOne
  by_cases e : (t == Value.ref C) = true
  · rw [if_pos e]
    have e2 : t = Value.ref C := beq_iff_eq.mp e
    subst e2
    rw [self] at h
    exact h
  · rw [if_neg e]
    have h1' : (PySem.W.clsIn K C).isSome = true := h1
    show (if ((PySem.W.clsIn K C).isSome && PySem.W.typeIn K (.ref C) == some (.type "type")) = true then PySem.W.subIn K t (.ref C) else none) = some b
    rw [h1', h2]
    exact h
end OB
/-! len(set(x)) of a list or a tuple of ints, doubles among them. -/
namespace OB
open PySem PySem.Spec PyProof.Rows L2
theorem sub_len {α : Type} [DecidableEq α] : ∀ {l1 l2 : List α}, l1.Nodup → (∀ x ∈ l1, x ∈ l2) → l1.length ≤ l2.length
  | [], l2, _, _ => Nat.zero_le _
  | a :: r, l2, h, s => by
    have h2 := List.nodup_cons.mp h
    have ha : a ∈ l2 := s a List.mem_cons_self
    have ih := sub_len (l1 := r) (l2 := l2.erase a) h2.2 fun x hx => by
      have ne : x ≠ a := fun z => h2.1 (z ▸ hx)
      exact (List.mem_erase_of_ne ne).mpr (s x (List.mem_cons_of_mem _ hx))
    rw [List.length_erase_of_mem ha] at ih
    have pos : 0 < l2.length := List.length_pos_of_mem ha
    rw [List.length_cons]
    omega
theorem nodup_of_sub {α : Type} [DecidableEq α] : ∀ {l1 l2 : List α}, l1.Nodup → (∀ x ∈ l1, x ∈ l2) → l2.length ≤ l1.length → l2.Nodup
  | [], l2, _, _, hl => by
    have e : l2 = [] := List.length_eq_zero_iff.mp (Nat.le_zero.mp hl)
    rw [e]
    exact List.nodup_nil
  | a :: r, l2, h, s, hl => by
    have h2 := List.nodup_cons.mp h
    have ha : a ∈ l2 := s a List.mem_cons_self
    have hs : ∀ x ∈ r, x ∈ l2.erase a := fun x hx => by
      have ne : x ≠ a := fun z => h2.1 (z ▸ hx)
      exact (List.mem_erase_of_ne ne).mpr (s x (List.mem_cons_of_mem _ hx))
    have le := List.length_erase_of_mem ha
    have pos : 0 < l2.length := List.length_pos_of_mem ha
    rw [List.length_cons] at hl
    have ih := nodup_of_sub (l1 := r) (l2 := l2.erase a) h2.2 hs (by omega)
    have na : a ∉ l2.erase a := fun z => by
      have q := sub_len (l1 := a :: r) (l2 := l2.erase a) h fun x hx => by
        rcases List.mem_cons.mp hx with e | e
        · rw [e]
          exact z
        · exact hs x e
      rw [List.length_cons] at q
      omega
    exact ((List.perm_cons_erase ha).nodup_iff).mpr (List.nodup_cons.mpr ⟨na, ih⟩)
theorem same_len {α : Type} [DecidableEq α] {l1 l2 : List α} (h : l1.Nodup) (s : ∀ x, x ∈ l1 ↔ x ∈ l2) : l1.length ≤ l2.length ∧ (l1.length = l2.length ↔ l2.Nodup) := by
  have a := sub_len h fun x hx => (s x).mp hx
  refine ⟨a, fun e => nodup_of_sub h (fun x hx => (s x).mp hx) (by omega), fun e => ?_⟩
  have b := sub_len e fun x hx => (s x).mpr hx
  omega
theorem fm_nodup (val : Nat → Int) : ∀ i, (PyProof.Rows.firstMet val i).Nodup
  | 0 => List.nodup_nil
  | i + 1 => by
    rw [PyProof.Rows.firstMet_succ]
    have ih := fm_nodup val i
    show (if (PyProof.Rows.firstMet val i).any (· == val i) then PyProof.Rows.firstMet val i else PyProof.Rows.firstMet val i ++ [val i]).Nodup
    split
    · exact ih
    · rename_i h
      refine List.nodup_append.mpr ⟨ih, List.nodup_cons.mpr ⟨List.not_mem_nil, List.nodup_nil⟩, fun x hx y hy e => h ?_⟩
      rw [List.mem_singleton] at hy
      subst hy
      exact List.any_eq_true.mpr ⟨x, hx, by rw [e]; exact beq_self_eq_true _⟩
theorem fm_mem (ns : List Int) (x : Int) : x ∈ PyProof.Rows.firstMet (fun i => ns.getD i 0) ns.length ↔ x ∈ ns := by
  have e := PyProof.Rows.firstMet_any (fun i => ns.getD i 0) ns.length x
  have e2 : (List.range ns.length).map (fun i => ns.getD i 0) = ns := by
    apply List.ext_getElem
    · simp
    · intro i h1 h2
      simp [List.getD_eq_getElem?_getD, h2]
  rw [e2] at e
  have m : ∀ l : List Int, (l.any (· == x)) = true ↔ x ∈ l := fun l => by
    rw [List.any_eq_true]
    exact ⟨fun ⟨y, hy, ey⟩ => (eq_of_beq ey) ▸ hy, fun h => ⟨x, h, beq_self_eq_true _⟩⟩
  rw [← m, ← m, e]
/-- how many unlike ints -/
def tLenSet (K : PySem.W.Frag) (ta : TE) : TE := fun σ H Q => ta σ H fun x H1 => ∃ (p : Addr) (ns : List Int), x = .ref p ∧ (SqL K H1 p (ns.map V.int) ∨ SqT K H1 p (ns.map V.int)) ∧ ns.length ≤ 1100 ∧
  ∀ c : Nat, c ≤ ns.length → (c = ns.length ↔ ns.Nodup) → Q (.int (c : Nat)) H1
theorem pe_lenSet2 {X : Cx} {a : Expr} {ta : TE} {p p2 q pos : Pos} (hg : Gl X "len") (hm : X.mg "len" = none) (hg2 : Gl X "set") (hm2 : X.mg "set" = none) (ha : PE X a ta) (hc : X.calm = true := by rfl)
    (na : starEach [a] X.env = (false, eval a X.env) :: starEach [] X.env := by rfl) : PE X (.Call (.Name "len" p) [.Call (.Name "set" p2) [a] [] q] [] pos) (tLenSet X.K ta) := by
  refine ⟨fun pins s σ H Q I h => ?_⟩
  refine Call_ (ld_blt I hg hm boot_len ?_)
  refine PyProof.Rows.callWith_builtin1 (PyProof.Rows.args_cons ?_ rfl) rfl rfl
  refine Call_ (ld_blt I hg2 hm2 boot_set ?_)
  refine PyProof.Rows.callWith_type1 (PyProof.Rows.args_cons (thn (ha.run pins s σ H _ I h) fun v s1 ⟨x, H1, I1, r1, q1⟩ => PyProof.Rows.args_nil ?_) na) na rfl
  obtain ⟨l, ns, rfl, hq, hl, q1⟩ := q1
  cases r1
  rcases hq with hq | hq
  · obtain ⟨its, r, pl, hz⟩ := I1.list hq
    have hlen : its.toArray.size = ns.length := by rw [List.size_toArray, ← r.length, List.length_map]
    refine PySem.call_set_list (I1.ok.hd hc) pl.isList (ns := ns) (by simpa using RZ.intsAre_vals r) (by rw [hlen]; unfold scanBound; omega) fun h' tk hS hk => ?_
    refine PyProof.Rows.args_nil ?_
    rw [hlen] at hS
    have sl := same_len (fm_nodup (fun i => ns.getD i 0) ns.length) (fm_mem ns)
    obtain ⟨o, es, ep, t, ho, hex, hd, _, _, _, hf, hn⟩ := hS
    have I2 : Inv X pins σ H1 { s1 with heap := h', toks := tk } := I1.kept fun b o e => hk b o (Heap.lt_size e) e
    have q2 := q1 es.size (by rw [hn]; exact sl.1) (by rw [hn]; exact sl.2)
    exact call_len_set ho hex hd hf (by have := sl.1; omega) ⟨.int es.size, H1, I2.tok _, ⟨_, rfl⟩, q2⟩
  · obtain ⟨its, r, pt, hz⟩ := I1.tuple hq
    have hi : IntsAre its.toArray.toList ns := ints_of_vals r
    refine call_set_tupI ns (I1.ok.hd hc) (show s1.heap.IsTuple l its.toArray from pt) hi (by unfold scanBound; omega) fun h' tk c R1 hcn k => ?_
    refine PyProof.Rows.args_nil ?_
    obtain ⟨o, es, ep, t, ho, hex, hd, hgood, hnd, hmem, _, hf, hn, _⟩ := R1
    have I2 : Inv X pins σ H1 { s1 with heap := h', toks := tk } := I1.kept fun b o e => k b o e
    have sl := same_len (l2 := ns) hnd fun x => (by
      have z := (hmem x).symm
      simpa using z)
    rw [List.length_map, Array.length_toList] at sl
    have q2 := q1 es.size sl.1 sl.2
    exact call_len_set ho hex hd hf (by have := sl.1; omega) ⟨.int es.size, H1, I2.tok _, ⟨_, rfl⟩, q2⟩
end OB
set_option maxHeartbeats 4000000
/-! sorted(x) of a list or a tuple of ints. -/
namespace OB
open PySem PySem.Spec PyProof.Rows L2 SrtO
section
variable {prog : Program} {w : World} {A : Around} {E : Value → Shared → Prop} {s : Shared}
theorem collect_tup {l : Addr} {vs : List Value} {Q : List Value → Shared → Prop} (ht : IsTup s.heap l vs.toArray)
    (h : Q vs { s with heap := (s.heap.push (seqObj "list" #[] 0)).update s.heap.objs.size (Obj.mapSeq (· ++ vs.toArray)) }) (hz : vs.length ≤ sizeLine) :
    wpAny (model prog w) A (collect (.ref l)) Q E s := by
  obtain ⟨o, ho, hc, n, hd⟩ := id ht
  unfold collect
  refine wpAny_bind (wpAny_runValue (codeAny_builtin entry_proto_collect' ?_))
  show wpAny _ _ (do again (.builtin "list.__iadd__" ⟨[← newList [], .ref l], []⟩)) _ _ s
  refine wpAny_bind (wpAny_newList (wpAny_pure ⟨Code.quiet_builtin _ (by decide +kernel), codeAny_builtin entry_list_iadd' ?_⟩))
  show wpAny _ _ (Builtin.List.listExtendWith (.ref s.heap.objs.size) (.ref l) (.ref s.heap.objs.size)) _ _ { s with heap := s.heap.push (seqObj "list" #[] 0) }
  unfold Builtin.List.listExtendWith
  have o1 : (s.heap.push (seqObj "list" #[] 0)).get? l = some o := Heap.get?_push_of_some _ ho
  refine wpAny_bind (wpAny_typeOf (T := "tuple") ⟨o, o1, hc⟩ ?_)
  rw [if_pos (show (Builtin.List.listSameRef (Value.ref s.heap.objs.size) (Value.ref l) || Value.type "tuple" == Value.type "list" || Value.type "tuple" == Value.type "tuple") = true by
    rw [show (Value.type "tuple" == Value.type "tuple") = true from rfl, Bool.or_true])]
  refine wpAny_bind (listItems_at o1 hd (wpAny_bind (listItems_at (xs := #[]) (n := 0) (Heap.get?_push_size _ rfl) rfl ?_)))
  have room : ((#[] : Array Value) ++ vs.toArray).size ≤ sizeLine + 1 := by
    rw [Array.size_append, List.size_toArray, List.size_toArray, List.length_nil]
    omega
  rw [if_neg (show ¬ (!(#[] : Array Value).isEmpty && Builtin.List.listTooLong ((#[] : Array Value).size + vs.toArray.size)) = true from fun z => by
    have z : (false && _) = true := z
    rw [Bool.false_and] at z
    cases z)]
  refine wpAny_bind (listUpdate_at (xs := #[]) (n := 0) (Heap.get?_push_size _ rfl) rfl (wpAny_pure ?_) (Nat.zero_le _) room)
  refine wpAny_bind (wpAny_load (get?_update_seq (Heap.get?_push_size _ rfl) _) (wpAny_pure ?_))
  have e : ((#[] : Array Value) ++ vs.toArray).toList = vs := by simp
  rw [e]
  exact h
theorem sorted_tup {l : Addr} {vs : List Value} {ltv : Value → Value → Bool} {Q : Value → Shared → Prop} (O : Swo ltv) (ht : IsTup s.heap l vs.toArray) (hz : vs.length ≤ sizeLine)
    (hS : 2 ≤ vs.length → ∀ (h₁ : Heap) (a : Addr), h₁.get? a = some (seqObj "list" vs.toArray 0) → (∀ b o, s.heap.get? b = some o → b ≠ a ∧ h₁.get? b = some o) → SortableO prog w A.in1.in1 { s with heap := h₁ } a vs ltv)
    (h : ∀ out : List Value, Srtd ltv out → Stb ltv out vs → Q (.ref (s.heap.objs.size + 1)) { s with heap := sortedAll s.heap vs out.toArray }) :
    wpAny (model prog w) A (call (.builtin "sorted") [.ref l]) Q E s := by
  generalize hg : (s.heap.push (seqObj "list" #[] 0)).update s.heap.objs.size (Obj.mapSeq (· ++ vs.toArray)) = g
  have size : g.objs.size = s.heap.objs.size + 1 := by
    rw [← hg, Heap.size_update, Heap.size_push]
  have old : ∀ b o, s.heap.get? b = some o → g.get? b = some o := fun b o q => by
    rw [← hg, Heap.get?_update_ne _ _ _ _ (Nat.ne_of_lt (Heap.lt_size q))]
    exact Heap.get?_push_of_some _ q
  have new : (g.push (seqObj "list" vs.toArray 0)).get? (s.heap.objs.size + 1) = some (seqObj "list" vs.toArray 0) := by
    rw [← size]
    exact Heap.get?_push_size _ rfl
  refine Calls.call_function_entry kind_sorted plain_sorted entry_sorted (args_sorted1 _) ?_
  unfold Builtin.«sorted»
  refine wpAny_bind (m := checkCount "sorted" 1 1 _) (wpAny_pure (wpAny_bind (collect_tup ht ?_ hz)))
  rw [hg]
  refine wpAny_bind (wpAny_newList ?_ hz)
  show wpAny _ _ _ _ _ { s with heap := g.push (seqObj "list" vs.toArray 0) }
  rw [size]
  refine wpAny_bind (wpAny_holding (wpAny_call_entry slot_list_sort ⟨_, new, rfl⟩ entry_list_sort (list_sort_ord O new hz (fun h2 => hS h2 _ _ new fun b o q => ?_) fun out hs hb => ⟨_, rfl, wpAny_pure ⟨_, rfl, ?_⟩⟩) (args_list_sort _)))
  · exact ⟨Nat.ne_of_lt (Nat.lt_succ_of_lt (Heap.lt_size q)), Heap.get?_push_of_some _ (old b o q)⟩
  · rw [← hg]
    exact h out hs hb
end
section
variable {X : Cx}
def rSortedA (K : PySem.W.Frag) : List V → Hp → VK → Prop := fun vs H Q => ∃ (a : Addr) (ns : List Int), vs = [V.ref a] ∧ (SqL K H a (ns.map V.int) ∨ SqT K H a (ns.map V.int)) ∧
  ∀ (ns' : List Int) (p : Addr), ns'.Perm ns → ns'.Pairwise (· ≤ ·) → H p = none → Q (.ref p) (upd H p (.lst (ns'.map V.int)))
theorem cr_sortedA : CallR X (.builtin "sorted") (rSortedA X.K) := by
  intro pins s σ H vs us Q I r h
  obtain ⟨a, ns, rfl, hs, q⟩ := h
  rcases hs with hs | ht
  · exact cr_sortedI pins s σ H _ us Q I r ⟨a, ns, rfl, hs, q⟩
  · obtain ⟨its, rv, hl, hz⟩ := I.tuple ht
    rw [Vals.ref1 r]
    have hi := rv.ints
    refine sorted_tup swo_int hl (by rw [← rv.length]; exact hz) (fun h2 h₁ a' _ _ => ints_sortable hi h2) fun out h1 h2 => ?_
    obtain ⟨k1, k2, k3⟩ := ints_out hi h1 h2
    obtain ⟨ep, at'⟩ := PyProof.Rows.sortedAll_at s.heap its out.toArray
    have hlen : ((out.map iv).map V.int).length ≤ sizeLine := by
      rw [List.length_map] at hz ⊢
      rw [k2.length_eq]
      exact hz
    exact ⟨.ref _, upd H (s.heap.objs.size + 1) (.lst ((out.map iv).map V.int)), I.laid (t' := s.toks) (fun _ _ => PyProof.Rows.sortedAll_old) (Nat.le_succ _) ⟨hlen, out, ep, vals_of_ints k1, at'⟩, rfl, q _ _ k2 k3 (I.hok.fresh (Nat.le_succ _))⟩
end
end OB
/-! A list or a tuple: gone through, asked for its kind. -/
namespace OB
open PySem PySem.Spec PyProof.Rows L2
theorem sqL_same {K : PySem.W.Frag} {H H' : Hp} {a : Addr} {xs : List V} (h : SqL K H a xs) (s : Same H H') : SqL K H' a xs := by
  rcases h with (h | ⟨o, h⟩) | h
  · exact .inl (.inl (s _ _ h))
  · exact .inl (.inr ⟨o, s _ _ h⟩)
  · exact .inr h
theorem sqT_same {K : PySem.W.Frag} {H H' : Hp} {a : Addr} {xs : List V} (h : SqT K H a xs) (s : Same H H') : SqT K H' a xs := by
  rcases h with (h | ⟨o, h⟩) | h
  · exact .inl (.inl (s _ _ h))
  · exact .inl (.inr ⟨o, s _ _ h⟩)
  · exact .inr h
def iSeqA (K : PySem.W.Frag) (te : TE) : TI := fun σ H R => te σ H fun x H1 => ∃ a, x = .ref a ∧ (((∃ xs, SqL K H1 a xs) ∧ R (Itl K a) H1) ∨ ((∃ xs, SqT K H1 a xs) ∧ R (Itt K a) H1))
theorem pi_seqA {X : Cx} {tg e : Expr} {te : TE} (he : PE X e te) : PI X tg e (iSeqA X.K te) := by
  refine ⟨fun pins s σ H R I h => thn (he.run pins s σ H _ I h) fun v s1 ⟨x, H1, I1, r1, a, ex, q⟩ => ?_⟩
  subst ex
  cases r1
  rcases q with ⟨⟨xs, hq⟩, q⟩ | ⟨⟨xs, hq⟩, q⟩
  · obtain ⟨its, rv, p, hz⟩ := I1.list hq
    exact wpAny_pyIter_list p.isList (pi_one (tk := s1.toks) I1 _ (turn_list a _) ⟨_, Heap.get?_push_size _ rfl, rfl, rfl⟩ q)
  · obtain ⟨its, rv, p, hz⟩ := I1.tuple hq
    exact wpAny_pyIter_tuple (show s1.heap.IsTuple a its.toArray from p) (pi_one (tk := s1.toks) I1 _ (turn_tuple a _) ⟨_, Heap.get?_push_size _ rfl, rfl, rfl⟩ q)
/-- a row over it, a list or a tuple: Pv by the new list, the turn and the heap -/
theorem lc_seqA {K : PySem.W.Frag} {a : Addr} {xs : List V} {g : TG} {tt : TT} {te : TE} {vs : List Nat} {σ : L2.St} {H1 : Hp} {Qd : Addr → Hp → Prop} (h : SqL K H1 a xs ∨ SqT K H1 a xs) (Pv : Addr → Nat → Hp → Prop)
    (h0 : ∀ D, H1 D = none → Pv D 0 (upd H1 D (.lst []))) (keep : ∀ D i H, H1 D = none → i ≤ xs.length → Pv D i H → Same H1 H)
    (hs : ∀ D i x H, H1 D = none → xs[i]? = some x → Pv D i H → g x (wipe σ vs) H fun σ2 H2 => wipe σ2 vs = wipe σ vs ∧ tt σ2 H2 fun b H3 =>
      if b = true then te σ2 H3 fun y H4 => ∃ acc, H4 D = some (.lst acc) ∧ acc.length < sizeLine ∧ Pv D (i + 1) (upd H4 D (.lst (acc ++ [y]))) else Pv D (i + 1) H3) (hd : ∀ D H, H1 D = none → Pv D xs.length H → Qd D H) :
    ((∃ ys, SqL K H1 a ys) ∧ ∀ D, H1 D = none → ∃ W : Nat → Nat → Hp → Prop, (∃ m, W 0 m (upd H1 D (.lst []))) ∧ ∀ i m H, W i m H →
      ((Itl K a).stop i H ∧ Qd D H) ∨ ((Itl K a).go i H ∧ ∃ Nx : Hp → Prop, (∀ H', Nx H' → ∃ m', m' < m ∧ W (i + 1) m' H') ∧ ∀ x H', (Itl K a).yld i H x H' → g x (wipe σ vs) H' fun σ2 H2 => wipe σ2 vs = wipe σ vs ∧ tt σ2 H2 fun b H3 =>
        if b = true then te σ2 H3 fun y H4 => ∃ acc, H4 D = some (.lst acc) ∧ acc.length < sizeLine ∧ Nx (upd H4 D (.lst (acc ++ [y]))) else Nx H3)) ∨
    ((∃ ys, SqT K H1 a ys) ∧ ∀ D, H1 D = none → ∃ W : Nat → Nat → Hp → Prop, (∃ m, W 0 m (upd H1 D (.lst []))) ∧ ∀ i m H, W i m H →
      ((Itt K a).stop i H ∧ Qd D H) ∨ ((Itt K a).go i H ∧ ∃ Nx : Hp → Prop, (∀ H', Nx H' → ∃ m', m' < m ∧ W (i + 1) m' H') ∧ ∀ x H', (Itt K a).yld i H x H' → g x (wipe σ vs) H' fun σ2 H2 => wipe σ2 vs = wipe σ vs ∧ tt σ2 H2 fun b H3 =>
        if b = true then te σ2 H3 fun y H4 => ∃ acc, H4 D = some (.lst acc) ∧ acc.length < sizeLine ∧ Nx (upd H4 D (.lst (acc ++ [y]))) else Nx H3)) := by
  rcases h with h | h
  · exact .inl ⟨⟨xs, h⟩, fun D hD => lc_list (Pv D) (h0 D hD) (fun i H hi p => sqL_same h (keep D i H hD hi p)) (fun i x H hx p => hs D i x H hD hx p) fun H p => hd D H hD p⟩
  · exact .inr ⟨⟨xs, h⟩, fun D hD => lc_tup (Pv D) (h0 D hD) (fun i H hi p => sqT_same h (keep D i H hD hi p)) (fun i x H hx p => hs D i x H hD hx p) fun H p => hd D H hD p⟩
/-- whether a value is a list or a tuple -/
def IsL (K : PySem.W.Frag) (H : Hp) (x : V) (b : Bool) : Prop := ∃ (n : String) (b1 b2 : Bool), TyX K H x (.type n) ∧ kitB n "list" = some b1 ∧ kitB n "tuple" = some b2 ∧ b = (b1 || b2)
theorem isL_any {K : PySem.W.Frag} {H : Hp} {x : V} {b : Bool} (h : IsL K H x b) : ∃ t, TyX K H x t ∧ PySem.W.kitAny K t [.type "list", .type "tuple"] = some b := by
  obtain ⟨n, b1, b2, ty, e1, e2, rfl⟩ := h
  refine ⟨_, ty, kitAny_cons (kit_ty e1) (fun z => kitAny_cons (kit_ty e2) (fun z2 => ?_) fun z2 => ?_) fun z => ?_⟩
  · rw [z, z2]
    exact kitAny_nil
  · rw [z, z2]
    rfl
  · rw [z]
    rfl
section
variable {K : PySem.W.Frag} {H : Hp}
theorem isL_int (i : Int) : IsL K H (.int i) false := ⟨"int", false, false, .base (.int i), by decide +kernel, by decide +kernel, rfl⟩
theorem isL_non : IsL K H .non false := ⟨"NoneType", false, false, .base .non, by decide +kernel, by decide +kernel, rfl⟩
theorem isL_bl (b : Bool) : IsL K H (.bl b) false := ⟨"bool", false, false, .base (.bl b), by decide +kernel, by decide +kernel, rfl⟩
theorem isL_str (x : Str) : IsL K H (.str x) false := ⟨"str", false, false, .base (.str x), by decide +kernel, by decide +kernel, rfl⟩
theorem isL_dK {a : Addr} {kvs : List (Key × V)} (e : H a = some (.dK kvs)) : IsL K H (.ref a) false := ⟨"dict", false, false, .base (.dK e), by decide +kernel, by decide +kernel, rfl⟩
theorem isL_lst {a : Addr} {xs : List V} (e : H a = some (.lst xs)) : IsL K H (.ref a) true := ⟨"list", true, false, .base (.lst e), by decide +kernel, by decide +kernel, rfl⟩
theorem isL_tup {a : Addr} {xs : List V} (e : H a = some (.tup xs)) : IsL K H (.ref a) true := ⟨"tuple", false, true, .base (.tup e), by decide +kernel, by decide +kernel, rfl⟩
end
end OB
/-! Promises of defs where it is known that no repr is under way: there repr of a list or a tuple is its text. -/
namespace OB
open PySem PySem.Spec PyProof.Rows L2 LamX
/-- what FnOk promises, asked only where no repr is under way -/
structure FnG (P : Program) (w : World) (K : PySem.W.Frag) (mg : Str → Option Value) (base : Heap) (CX : CXT) (k : Nat) (f : Addr) (fd : FuncData) (ps : List Str) (sp : Sp) : Prop where
  len : ∀ vs H Q E, sp vs H Q E → vs.length = ps.length
  run : ∀ (A : Around) (outer : List Env) (s : Shared) (H : Hp) (args : Args) (us : List Value) (vs : List V) (Q : VK) (E : XK), A.guards = some [] → Room k A → Env0 P w K mg base A outer s H → BindsTo s fd args (ps.zip us) → Vals vs us → sp vs H Q E →
    codeAny (model P w) A (.call (.ref f) args) (CR CX outer P w H s Q E) s
section
variable {P : Program} {w : World} {K : PySem.W.Frag} {mg : Str → Option Value} {base : Heap} {CX : CXT} {k : Nat} {f : Addr} {fd : FuncData} {ps : List Str} {sp : Sp}
theorem FnG.of (F : FnOk P w K mg base CX k f fd ps sp) : FnG P w K mg base CX k f fd ps sp := ⟨F.len, fun A outer s H args us vs Q E _ => F.run A outer s H args us vs Q E⟩
theorem fnG_of {name qual : Str} {params : Arguments} {body : List Stmt} {scope : Scope} {dV kV doc pm cdv ct oc : Value} {an od : Option Addr} {osl : Array (Option Value)} {N : List Str}
    (lk : K.lookup f = some ⟨oc, od, .func (PySem.W.fnOf name qual params body scope dV kV doc pm an cdv ct), osl⟩) (hcd : PySem.W.codeIn K cdv qual = true) (S : FnScope N ps scope) (len : ∀ vs H Q E, sp vs H Q E → vs.length = ps.length)
    (hbody : ∀ (A : Around) (outer : List Env) (s : Shared) (H : Hp) (vs : List V) (Q : VK) (E : XK), A.guards = some [] → Room k (A.deeper (envOfC qual scope s.heap.objs.size f cdv)) → sp vs H Q E →
      ∃ t, PSs (cxOf CX P w K mg base N qual scope f cdv A outer s H E) body t ∧ t { nx := fun _ H' => Q .non H', rt := Q } (L2.start N vs) H) :
    FnG P w K mg base CX (k + 1) f (PySem.W.fnOf name qual params body scope dV kV doc pm an cdv ct) ps sp :=
  ⟨len, fun A outer s H args us vs Q E hgd hr e0 hb r hsp => run_ofS lk hcd S hr e0 hb r (len _ _ _ _ hsp) fun hr' => hbody A outer s H vs Q E hgd hr' hsp⟩
theorem okG {x qual : Str} {st : Stmt} {N : List Str} (F : Fun K x qual st f fd) (S : FnScope N ps (defScope st)) (len : ∀ vs H Q E, sp vs H Q E → vs.length = ps.length)
    (hbody : ∀ (cdv : Value) (A : Around) (outer : List Env) (s : Shared) (H : Hp) (vs : List V) (Q : VK) (E : XK), A.guards = some [] → Room k (A.deeper (envOfC qual (defScope st) s.heap.objs.size f cdv)) → sp vs H Q E →
      ∃ t, PSs (cxOf CX0 P w K mg base N qual (defScope st) f cdv A outer s H E).nox (defBody st) t ∧ t { nx := fun _ H' => Q .non H', rt := Q } (L2.start N vs) H) : FnG P w K mg base CX0 (k + 1) f fd ps sp := by
  obtain ⟨oc, od, kV, doc, pm, an, cdv, ct, osl, rfl, lk, hcd⟩ := F.ex
  refine fnG_of lk hcd S len fun A outer s H vs Q E hgd hr hsp => ?_
  obtain ⟨t, h, q⟩ := hbody cdv A outer s H vs Q E hgd hr hsp
  exact ⟨t, h.nox, q⟩
end
section
variable {X : Cx} {CX : CXT} {k : Nat} {f : Addr} {fd : FuncData} {ps : List Str} {sp : Sp} {E : XK} {x : Str} {p pos : Pos} {e : Expr} {es : List Expr} {t : TA} {ds : List Value} {dvs : List V}
theorem run_fnG {pins : List (Addr × Obj)} {σ : L2.St} {H : Hp} {s : Shared} {Q : VK} {us : List Value} {vs : List V} (F : FnG X.prog X.w X.K X.mg X.base CX k f fd ps sp) (hgd : X.A.guards = some []) (hr : Room k X.A) (hb : L2.Binds X.K fd ps ds) (hd : Vals dvs ds) (hx : Passes CX X E)
    (I : Inv X pins σ H s) (r : Vals vs us) (h : sp (vs ++ dvs) H Q E) : wpAny (model X.prog X.w) X.A (call (.ref f) us) (EP X pins σ Q) X.xe s := by
  have r2 : Vals (vs ++ dvs) (us ++ ds) := r.append hd
  have hl : (us ++ ds).length = ps.length := r2.length ▸ F.len _ _ _ _ h
  refine wpAny_call (codeAny_mono (F.run X.A X.stack s H ⟨us, []⟩ (us ++ ds) (vs ++ dvs) Q E hgd hr I.env0 (hb s us I.kIn hl) r2 h) fun res s' hq => ?_)
  match res, hq with
  | .error _, hq => exact hx pins σ H s _ s' I hq
  | .ok (.ret _), hq => exact I.after hq
/-- f(e, ..), f promised where no repr is under way -/
theorem pe_callG (F : FnG X.prog X.w X.K X.mg X.base CX k f fd ps sp) (hgd : X.A.guards = some []) (hr : Room k X.A) (hg : Gl X x) (hm : X.mg x = some (.ref f)) (hk : PySem.W.keepIn X.K (.ref f) = true) (hb : L2.Binds X.K fd ps ds) (hd : Vals dvs ds) (hx : Passes CX X E)
    (ha : PA X (e :: es) t) (hdb : (x == ("__debug__" : Str)) = false := by decide) (he : starEach (e :: es) X.env = (false, eval e X.env) :: starEach es X.env := by rfl) (hpl : (backTo pos (starEach es X.env)).any (·.1) = false := by rfl) :
    PE X (.Call (.Name x p) (e :: es) [] pos) (tCall sp dvs E t) :=
  ⟨fun pins s σ H Q I h => wpAny_Call_Name_kw (ld_glob I hg hm (PySem.W.callWith_K (h₀ := X.base) I.ok.mod.kin hk (thn (ha.run pos pins s σ H _ I h) fun us s1 ⟨vs, H1, I1, r, q⟩ => ⟨I1.kIn, run_fnG F hgd hr hb hd hx I1 r q⟩) he hpl) hdb)⟩
/-- repr(x), x data of lists and tuples -/
def rReprD (K : PySem.W.Frag) : List V → Hp → VK → Prop := fun xs H Q => ∃ (a : Addr) (d : PyData), xs = [.ref a] ∧ Dp K H (.ref a) d ∧ d.showable = true ∧ d.canLay0 = true ∧ d.depth ≤ 60 ∧ d.shown.length ≤ sizeLine ∧ Q (.str d.shown) H
theorem call_reprD (hgd : X.A.guards = some []) (hu : X.A.units + 64 < cLine) : CallR X (.builtin "repr") (rReprD X.K) := by
  intro pins s σ H xs us Q I r h
  obtain ⟨a, d, rfl, hd, hs, hl, hdp, hz, q⟩ := h
  cases r with
  | cons r rr =>
    cases rr
    obtain ⟨as, rd⟩ := Dp.reads I d _ _ hd r
    cases r
    refine repr_of_reads' rd hs (PyData.noDict_hsm (PyData.hasDict_of_canLay d hl)) hgd (by omega) (fun _ _ e => e) (fun h' u tk hk => ?_) hz
    exact ⟨.str d.shown, H, I.kept hk, ⟨_, rfl⟩, q⟩
end
end OB
/-! repr of a list or a tuple of ints. -/
namespace OB
open PySem PySem.Spec PyProof.Rows L2
theorem shown_ints : ∀ ns : List Int, PyData.shownAll (ns.map PyData.int) = ns.map fun n => Str.ofString (toString n)
  | [] => by simp [PyData.shownAll]
  | n :: r => by simp [PyData.shownAll, PyData.shown, shown_ints r]
theorem show_ints : ∀ ns : List Int, (∀ n ∈ ns, n.natAbs.log2 < 1920) → PyData.showableAll (ns.map PyData.int) = true
  | [], _ => by simp [PyData.showableAll]
  | n :: r, h => by
    have h1 := h n List.mem_cons_self
    have h2 := show_ints r fun x hx => h x (List.mem_cons_of_mem _ hx)
    simp [PyData.showableAll, PyData.showable, h2, h1]
theorem piled_ints : ∀ ns : List Int, (∀ n ∈ ns, n.natAbs.log2 < 1920) → piled (ns.map fun n => Str.ofString (toString n)) ≤ 1923 * ns.length
  | [], _ => Nat.zero_le _
  | n :: r, h => by
    have h1 := int_text_len_1921 (h n List.mem_cons_self)
    have h2 := piled_ints r fun x hx => h x (List.mem_cons_of_mem _ hx)
    rw [List.map_cons, piled_cons, List.length_cons]
    omega
theorem list_len (ts : List Str) : (listText ts).length ≤ piled ts + 2 := by
  have one : (("[" : String) : Str).length = 1 := rfl
  have two : (("]" : String) : Str).length = 1 := rfl
  unfold listText
  rw [strLen_append, two]
  cases ts with
  | nil =>
    show (("[" : String) : Str).length + 1 ≤ _
    rw [one]
    exact Nat.le_add_left _ _
  | cons t r =>
    show (textFrom 1 ((("[" : String) : Str) ++ t) r).length + 1 ≤ _
    rw [textFrom_length_pos r 1 _ (by decide), strLen_append, one, piled_cons]
    omega
theorem depth_ints (ns : List Int) : PyData.depthAll (ns.map PyData.int) ≤ 1 := deep_ints ns
/-- the text of a list, of a tuple of ints -/
def tl (ns : List Int) : Str := PyData.shown (.list (ns.map PyData.int))
def tt (ns : List Int) : Str := PyData.shown (.tuple (ns.map PyData.int))
theorem tl_len {ns : List Int} (h : ∀ n ∈ ns, n.natAbs.log2 < 1920) (hl : ns.length ≤ 1000) : (tl ns).length ≤ sizeLine := by
  have a := piled_ints ns h
  have b := list_len (ns.map fun n => Str.ofString (toString n))
  show (listText (PyData.shownAll (ns.map PyData.int))).length ≤ sizeLine
  rw [shown_ints, sizeLine_eq]
  omega
theorem tt_len {ns : List Int} (h : ∀ n ∈ ns, n.natAbs.log2 < 1920) (hl : ns.length ≤ 1000) : (tt ns).length ≤ sizeLine := by
  have a := piled_ints ns h
  have b := fmt_text (ns.map fun n => Str.ofString (toString n))
  show (tupleText (PyData.shownAll (ns.map PyData.int))).length ≤ sizeLine
  rw [shown_ints, sizeLine_eq]
  omega
section
variable {X : Cx}
def rReprI (K : PySem.W.Frag) : List V → Hp → VK → Prop := fun xs H Q => ∃ (a : Addr) (ns : List Int), xs = [.ref a] ∧ (∀ n ∈ ns, n.natAbs.log2 < 1920) ∧ ns.length ≤ 1000 ∧ ((SqL K H a (ns.map V.int) ∧ Q (.str (tl ns)) H) ∨ (SqT K H a (ns.map V.int) ∧ Q (.str (tt ns)) H))
theorem call_reprI (hgd : X.A.guards = some []) (hu : X.A.units + 64 < cLine) : CallR X (.builtin "repr") (rReprI X.K) := by
  intro pins s σ H xs us Q I r h
  obtain ⟨a, ns, rfl, hs, hl, q⟩ := h
  have sh := show_ints ns hs
  have d := depth_ints ns
  rcases q with ⟨hq, q⟩ | ⟨hq, q⟩
  · refine call_reprD hgd hu pins s σ H _ us Q I r ⟨a, .list (ns.map PyData.int), rfl, Dp.lst hq (dp_ints ns), by simp [PyData.showable, sh], by simp [PyData.canLay0, lay_ints], ?_, tl_len hs hl, q⟩
    show PyData.depthAll (ns.map PyData.int) + 1 ≤ 60
    omega
  · refine call_reprD hgd hu pins s σ H _ us Q I r ⟨a, .tuple (ns.map PyData.int), rfl, Dp.tup hq (dp_ints ns), by simp [PyData.showable, sh], by simp [PyData.canLay0, lay_ints], ?_, tt_len hs hl, q⟩
    show PyData.depthAll (ns.map PyData.int) + 1 ≤ 60
    omega
end
end OB
/-! What a reader of errors told, call by call, in a list that grows; things that stay meanwhile. -/
namespace OB
open PySem PySem.Spec PyProof.Rows L2 LamX
/-- a list that begins with a reference, or a table: what may change -/
def refL : HO → Bool
  | .lst (.ref _ :: _) => true
  | .tbl _ => true
  | _ => false
def Keep (H H' : Hp) : Prop := ∀ q o, H q = some o → refL o = false → H' q = some o
section
variable {H H' H1 H2 : Hp}
theorem Keep.refl : Keep H H := fun _ _ h _ => h
theorem Keep.trans (a : Keep H H1) (b : Keep H1 H2) : Keep H H2 := fun q o h n => b q o (a q o h n) n
theorem Keep.ext (e : ExtN H H') : Keep H H' := fun q o h n => e q o h fun ps z => by
  subst z
  cases n
theorem Keep.same (s : Same H H') : Keep H H' := fun q o h _ => s q o h
theorem Keep.but {p : Addr} (b : But p H H') (hp : ∃ x r, H p = some (.lst (.ref x :: r))) : Keep H H' := fun q o h n => b q o h fun z => by
  obtain ⟨x, r, hp⟩ := hp
  rw [z, hp] at h
  cases h
  cases n
theorem orch_ref {p b : Addr} {n : Nat} (o : Orch H p b n) : ∃ x r, H p = some (.lst (.ref x :: r)) := by
  obtain ⟨ns, t, l, h1, _⟩ := o
  exact ⟨_, _, h1⟩
theorem orch_extN {p b : Addr} {n : Nat} (o : Orch H p b n) (e : ExtN H H') : Orch H' p b n := by
  obtain ⟨ns, t, l, h1, h2, h3⟩ := o
  exact ⟨ns, t, l, e _ _ h1 (fun _ z => nomatch z), e _ _ h2 (fun _ z => nomatch z), h3⟩
theorem tabs_butN {T : List (Addr × Str)} {p : Addr} {xs : List V} (t : Tabs T H) (b : But p H H') (hp : H p = some (.lst xs)) : Tabs T H' := fun x hx => by
  obtain ⟨ps, h1, h2, h3⟩ := t x hx
  have n1 : x.1 ≠ p := fun z => by
    rw [z, hp] at h1
    cases h1
  refine ⟨ps, b _ _ h1 n1, h2, fun pos cv hc => ?_⟩
  obtain ⟨c, e1, e2⟩ := h3 pos cv hc
  have n2 : c ≠ p := fun z => by
    rw [z, hp] at e2
    have e2 := Option.some.inj e2
    cases e2
  exact ⟨c, e1, b _ _ e2 n2⟩
theorem tabs_orchN {T : List (Addr × Str)} {p b : Addr} {n : Nat} (t : Tabs T H) (B : But p H H') (o : Orch H p b n) : Tabs T H' := by
  obtain ⟨ns, x, y, hp, _⟩ := o
  exact tabs_butN t B hp
/-- things that stay -/
def Fix (A : List (Addr × HO)) (H : Hp) : Prop := ∀ a ∈ A, H a.1 = some a.2 ∧ refL a.2 = false
theorem Fix.nil : Fix [] H := fun a h => absurd h List.not_mem_nil
theorem Fix.cons {A : List (Addr × HO)} {a : Addr} {o : HO} (h : H a = some o) (n : refL o = false) (f : Fix A H) : Fix ((a, o) :: A) H := fun x hx => by
  rcases List.mem_cons.mp hx with e | e
  · rw [e]
    exact ⟨h, n⟩
  · exact f x e
theorem Fix.keep {A : List (Addr × HO)} (f : Fix A H) (k : Keep H H') : Fix A H' := fun a ha => ⟨k _ _ (f a ha).1 (f a ha).2, (f a ha).2⟩
theorem Fix.get {A : List (Addr × HO)} (f : Fix A H) {a : Addr} {o : HO} (h : (a, o) ∈ A) : H a = some o := (f _ h).1
theorem Fix.app {A B : List (Addr × HO)} (f : Fix A H) (g : Fix B H) : Fix (A ++ B) H := fun a ha => by
  rcases List.mem_append.mp ha with e | e
  · exact f a e
  · exact g a e
/-- what the reader told: a kind and a part, or None -/
def Ent (H : Hp) (v : V) : Option (Str × Str) → Prop
  | none => v = .non
  | some k => ∃ t, v = .ref t ∧ H t = some (.tup [.str k.1, .str k.2])
def Res (H : Hp) : List V → List (Option (Str × Str)) → Prop
  | [], [] => True
  | v :: r, k :: ks => Ent H v k ∧ Res H r ks
  | _, _ => False
theorem Ent.keep {v : V} {k : Option (Str × Str)} (e : Ent H v k) (q : Keep H H') : Ent H' v k := by
  cases k with
  | none => exact e
  | some k =>
    obtain ⟨t, rfl, h⟩ := e
    exact ⟨t, rfl, q _ _ h rfl⟩
theorem Res.keep (q : Keep H H') : ∀ {vs : List V} {ks : List (Option (Str × Str))}, Res H vs ks → Res H' vs ks
  | [], [], _ => trivial
  | _ :: _, _ :: _, ⟨a, b⟩ => ⟨a.keep q, Res.keep q b⟩
theorem Res.snoc {v : V} {k : Option (Str × Str)} (e : Ent H v k) : ∀ {vs : List V} {ks : List (Option (Str × Str))}, Res H vs ks → Res H (vs ++ [v]) (ks ++ [k])
  | [], [], _ => ⟨e, trivial⟩
  | _ :: _, _ :: _, ⟨a, b⟩ => ⟨a, Res.snoc e b⟩
theorem Res.length : ∀ {vs : List V} {ks : List (Option (Str × Str))}, Res H vs ks → vs.length = ks.length
  | [], [], _ => rfl
  | _ :: _, _ :: _, ⟨_, b⟩ => congrArg (· + 1) (Res.length b)
def entD : Option (Str × Str) → PyData
  | none => .none
  | some k => .tuple [.str k.1, .str k.2]
theorem Ent.dp {K : PySem.W.Frag} {v : V} {k : Option (Str × Str)} (e : Ent H v k) : Dp K H v (entD k) := by
  cases k with
  | none =>
    have e : v = .non := e
    rw [e]
    exact .non
  | some k =>
    obtain ⟨t, rfl, h⟩ := e
    exact Dp.tup (SqT.of h) (.cons (.str _) (.cons (.str _) .nil))
theorem Res.dp {K : PySem.W.Frag} : ∀ {vs : List V} {ks : List (Option (Str × Str))}, Res H vs ks → DpAll K H vs (ks.map entD)
  | [], [], _ => .nil
  | _ :: _, _ :: _, ⟨a, b⟩ => .cons a.dp (Res.dp b)
/-- between two calls of the reader -/
structure St (T : List (Addr × Str)) (p b h : Addr) (A : List (Addr × HO)) (n : Nat) (H : Hp) (vs : List V) (ks : List (Option (Str × Str))) : Prop where
  tabs : Tabs T H
  orch : Orch H p b n
  at' : H h = some (.lst vs)
  hp : h ≠ p
  hb : h ≠ b
  fix : Fix A H
  res : Res H vs ks
  first : ∃ x r, vs = .ref x :: r
variable {T : List (Addr × Str)} {p b h : Addr} {A : List (Addr × HO)} {n m : Nat} {vs : List V} {ks : List (Option (Str × Str))}
theorem St.ext (s : St T p b h A n H vs ks) (e : ExtN H H') (t : Tabs T H') : St T p b h A n H' vs ks :=
  ⟨t, orch_extN s.orch e, e _ _ s.at' (fun _ z => nomatch z), s.hp, s.hb, s.fix.keep (.ext e), s.res.keep (.ext e), s.first⟩
theorem St.but (s : St T p b h A n H vs ks) (B : But p H H') (O : Orch H' p b m) : St T p b h A m H' vs ks :=
  ⟨tabs_orchN s.tabs B s.orch, O, B _ _ s.at' s.hp, s.hp, s.hb, s.fix.keep (.but B (orch_ref s.orch)), s.res.keep (.but B (orch_ref s.orch)), s.first⟩
theorem St.add {v : V} {k : Option (Str × Str)} (s : St T p b h A n H vs ks) (e : Ent H v k) : St T p b h A n (upd H h (.lst (vs ++ [v]))) (vs ++ [v]) (ks ++ [k]) := by
  obtain ⟨x, r, ev⟩ := s.first
  have B : But h H (upd H h (.lst (vs ++ [v]))) := but_at
  have kp : Keep H (upd H h (.lst (vs ++ [v]))) := .but B ⟨x, r, by rw [s.at', ev]⟩
  refine ⟨tabs_butN s.tabs B s.at', s.orch.keep (fun u hu => B _ _ hu (fun z => s.hp z.symm)) (fun u hu => B _ _ hu (fun z => s.hb z.symm)), upd_same, s.hp, s.hb, s.fix.keep kp, (s.res.keep kp).snoc (e.keep kp), x, r ++ [v], by rw [ev]; rfl⟩
theorem St.begin {t h : Addr} {k : Str × Str} (hT : Tabs T H) (O : Orch H p b n) (F : Fix A H) (e : Ent H (.ref t) (some k)) (hh : H h = none) : St T p b h A n (upd H h (.lst [.ref t])) [.ref t] [some k] := by
  have S := same_new (o := .lst [.ref t]) hh
  obtain ⟨u, hu⟩ := O.pn
  obtain ⟨u2, hu2⟩ := O.bn
  exact ⟨hT.ext S, O.same S, upd_same, (ne_of_none hu hh).symm, (ne_of_none hu2 hh).symm, F.keep (.same S), ⟨e.keep (.same S), trivial⟩, t, [], rfl⟩
end
end OB
/-! The law's own call, its promise asked only where no repr is under way. -/
namespace OB
open PySem PySem.Spec PyProof.Rows L2 LamX
section
variable {P : Program} {w : World} {K : PySem.W.Frag} {mg mb : Str → Option Value} {CX : CXT} {k : Nat} {fa a : Addr} {cs : List (Addr × Addr)} {fd : FuncData} {x : Str} {sp : Sp} {s₁ : Shared} {vs : List Value} {ns : List Int}
/-- what is tracked as the law begins: its script, where it is no part of the text's own objects, and the tables of its lambdas -/
def top (K : PySem.W.Frag) (a : Addr) (vs : List Value) (ns : List Int) (T : List Addr) : Hp := fun b =>
  if b = a then (if K.lookup a = none then some (.frz { cls := .type "list", data := .seq vs.toArray } (.lst (ns.map V.int))) else none) else if b ∈ T then some (.tbl #[]) else none
theorem top_some {T : List Addr} {b : Addr} {u : HO} (h : top K a vs ns T b = some u) :
    (b = a ∧ K.lookup a = none ∧ u = .frz { cls := .type "list", data := .seq vs.toArray } (.lst (ns.map V.int))) ∨ (b ≠ a ∧ b ∈ T ∧ u = .tbl #[]) := by
  unfold top at h
  by_cases e : b = a
  · rw [if_pos e] at h
    by_cases n : K.lookup a = none
    · rw [if_pos n] at h
      exact .inl ⟨e, n, (Option.some.inj h).symm⟩
    · rw [if_neg n] at h
      cases h
  · rw [if_neg e] at h
    by_cases m : b ∈ T
    · rw [if_pos m] at h
      exact .inr ⟨e, m, (Option.some.inj h).symm⟩
    · rw [if_neg m] at h
      cases h
theorem top_none {T : List Addr} {b : Addr} (h1 : b = a → K.lookup a ≠ none) (h2 : b ∉ T) : top K a vs ns T b = none := by
  cases e : top K a vs ns T b with
  | none => rfl
  | some u =>
    rcases top_some e with ⟨q, n, _⟩ | ⟨_, m, _⟩
    · exact absurd n (h1 q)
    · exact absurd m h2
theorem law_callG (KX : K.In s₁.heap) (hns : s₁.heap.Ns mainGlobals mg) (hb : s₁.heap.Ns builtinsNs mb) (hbb : ∀ x : Str, x ≠ "__name__" → mb x = bootBuiltins x) (hlim : s₁.heap.NoLimit) (hg : s₁.gens = #[])
    (hT : ∀ p ∈ cs, s₁.heap.get? p.2 = some { cls := .none, data := .fields #[] }) (nT : ∀ p ∈ cs, K.lookup p.2 = none) (C : ∀ p ∈ cs, PySem.W.CodeHd s₁.heap p.1 p.2)
    (hbm : ∃ (bm : Addr) (ob : Obj), mg "__builtins__" = some (.ref bm) ∧ bm ≠ builtinsNs ∧ s₁.heap.get? bm = some ob ∧ ob.cls = .type "module" ∧ ob.dict = some builtinsNs ∧ ob.data = .plain)
    (ha : s₁.heap.get? a = some { cls := .type "list", data := .seq vs.toArray }) (hi : IntsAre vs ns) (hl : ns.length ≤ sizeLine) (hr : Room k callerA)
    (F : ∀ base : Heap, K.In base → base.Ns mainGlobals mg → (∀ p ∈ cs, TabB base mg p.1 p.2) → FnG P w K mg base CX k fa fd [x] sp) (hbind : ∀ (s : Shared) (u : Value), BindsTo s fd ⟨[u], []⟩ [(x, u)])
    (hsp : ∀ H : Hp, (∀ p ∈ cs, H p.2 = some (.tbl #[])) → SqL K H a (ns.map V.int) → sp [.ref a] H (fun v _ => v = .bl true) fun _ _ _ => False)
    (hCX : ∀ H e s', CX [] H s₁ (fun _ _ _ => False) e s' → False) :
    codeAny (model P w) callerA (.call (.ref fa) ⟨[.ref a], []⟩) (fun r s' => r = .ok (.ret (.bool true)) ∧ OldK s₁.heap s'.heap ∧ s'.os = s₁.os ∧ AllBare s'.gens) s₁ := by
  have rv := vals_ints hi
  obtain ⟨T, eT⟩ : ∃ T, T = cs.map (·.2) := ⟨_, rfl⟩
  have inT : ∀ p ∈ cs, p.2 ∈ T := fun p hp => eT ▸ List.mem_map.mpr ⟨p, hp, rfl⟩
  have ofT : ∀ b ∈ T, ∃ p ∈ cs, p.2 = b := fun b h => List.mem_map.mp (eT ▸ h)
  have tab : ∀ b ∈ T, s₁.heap.get? b = some { cls := .none, data := .fields #[] } := fun b h => by
    obtain ⟨p, hp, rfl⟩ := ofT b h
    exact hT p hp
  have aT : a ∉ T := fun z => by
    have q := (tab a z).symm.trans ha
    have q := congrArg Obj.data (Option.some.inj q)
    cases q
  obtain ⟨H, eH⟩ : ∃ H, H = top K a vs ns T := ⟨_, rfl⟩
  have some_ : ∀ {b u}, H b = some u → (b = a ∧ K.lookup a = none ∧ u = .frz { cls := .type "list", data := .seq vs.toArray } (.lst (ns.map V.int))) ∨ (b ≠ a ∧ b ∈ T ∧ u = .tbl #[]) := fun h => top_some (by rw [eH] at h; exact h)
  have hH : ∀ p ∈ cs, H p.2 = some (.tbl #[]) := fun p hp => by
    have ne : p.2 ≠ a := fun z => aT (z ▸ inT p hp)
    rw [eH]
    unfold top
    rw [if_neg ne, if_pos (inT p hp)]
  have hok : HOk P w H s₁.heap := fun b u z => by
    rcases some_ z with ⟨rfl, _, rfl⟩ | ⟨_, m, rfl⟩
    · exact ⟨ha, by rw [List.length_map]; exact hl, vs, _, rv, ha⟩
    · exact tab b m
  have hS : SqL K H a (ns.map V.int) := by
    cases hk : K.lookup a with
    | none =>
      refine .inl (.inr ⟨{ cls := .type "list", data := .seq vs.toArray }, ?_⟩)
      rw [eH]
      unfold top
      rw [if_pos rfl, if_pos hk]
    | some o =>
      have e := (KX a o hk).symm.trans ha
      cases e
      exact .inr ⟨_, vs.toArray, _, hk, rfl, rfl, rfl, by rw [List.size_toArray, hi.length]; exact hl, by simpa using rv⟩
  -- what is no list and no empty table is not tracked
  have bare : ∀ {b : Addr} {o : Obj}, s₁.heap.get? b = some o → (∀ vs n, o.data ≠ .seq vs n) → o.data ≠ .fields #[] → H b = none := fun {b o} e h1 h2 => by
    cases q : H b with
    | none => rfl
    | some u =>
      rcases some_ q with ⟨rfl, _, _⟩ | ⟨_, m, _⟩
      · cases e.symm.trans ha
        exact (h1 _ _ rfl).elim
      · cases e.symm.trans (tab b m)
        exact (h2 rfl).elim
  have under : ∀ {b : Addr} {o : Obj}, s₁.heap.get? b = some o → H b = none → (hidT s₁.heap H).get? b = some o := fun e n => hidT_get e n
  have names : ∀ {b : Addr} {m : Str → Option Value}, s₁.heap.Ns b m → (hidT s₁.heap H).Ns b m := fun {b m} ⟨o, es, ep, e, d, r⟩ =>
    ⟨o, es, ep, under e (bare e (fun vs n z => by rw [d] at z; cases z) fun z => by rw [d] at z; cases z), d, r⟩
  have hKb : K.In (hidT s₁.heap H) := fun b o e => under (KX b o e) (by
    cases q : H b with
    | none => rfl
    | some u =>
      rcases some_ q with ⟨rfl, n, _⟩ | ⟨_, m, _⟩
      · rw [n] at e
        cases e
      · obtain ⟨p, hp, rfl⟩ := ofT b m
        rw [nT p hp] at e
        cases e)
  have hM : L2.Mod K mg (hidT s₁.heap H) := ⟨hKb, names hns, ⟨mb, names hb, hbb⟩, let ⟨mc, h1, h2⟩ := hlim; ⟨mc, names h1, h2⟩⟩
  have TB : ∀ p ∈ cs, TabB (hidT s₁.heap H) mg p.1 p.2 := fun p hp => by
    have hTp := hT p hp
    refine ⟨?_, ?_, fun z => ?_⟩
    · obtain ⟨o, us, file, tf, flags, tg, inF, text, tt, e1, r1, r2, r3, rest⟩ := C p hp
      exact ⟨o, us, file, tf, flags, tg, inF, text, tt, under e1 (bare e1 (fun vs n z => by rw [r2] at z; cases z) fun z => by
        rw [r2] at z
        cases z
        simp at r3), r1, r2, r3, rest⟩
    · obtain ⟨bm, ob, b1, b2, b3, b4, b5, b6⟩ := hbm
      refine ⟨bm, ob, b1, b2, fun q => ?_, fun q => ?_, under b3 (bare b3 (fun vs n z => by rw [b6] at z; cases z) fun z => by rw [b6] at z; cases z), b4, b5, b6⟩
      · obtain ⟨o, es, ep, e, hd, _⟩ := hns
        rw [q, e] at b3
        cases b3
        rw [hd] at b6
        cases b6
      · rw [q, hTp] at b3
        cases b3
        cases b6
    · obtain ⟨o, es, ep, e, hd, _⟩ := hns
      rw [z, hTp] at e
      cases e
      cases hd
  have e0 : Env0 P w K mg (hidT s₁.heap H) callerA [] s₁ H := ⟨rfl, hM, fun b o e => of_hidT e, Nat.le_of_eq (hidT_size _ _), trivial, fun b hb => absurd (show b ∈ ([] : List Addr) from hb) (by simp), hok, .of_eq hg⟩
  refine codeAny_mono ((F _ hKb (names hns) TB).run callerA [] s₁ H ⟨[.ref a], []⟩ [.ref a] [.ref a] _ _ rfl hr e0 (hbind s₁ (.ref a)) (.cons rfl .nil) (hsp H hH hS)) fun r s' h => ?_
  match r, h with
  | .error e, h => exact (hCX H e s' h).elim
  | .ok (.ret u), h =>
    obtain ⟨v, H', os, bs, un, hok', r', q⟩ := h
    have q : v = .bl true := q
    subst q
    obtain rfl : u = Value.bool true := r'
    have key : ∀ b o, b ∉ T → s₁.heap.get? b = some o → s'.heap.get? b = some o := fun b o nb e => by
      cases q : H b with
      | none => exact un.keep b o e q (by intro z; exact absurd (show b ∈ ([] : List Addr) from z) (by simp)) (by simp)
      | some u =>
        rcases some_ q with ⟨rfl, _, rfl⟩ | ⟨_, m, _⟩
        · obtain ⟨e1, _⟩ := hok b _ q
          obtain ⟨e2, _⟩ := hok' b _ (un.frzs b _ _ q)
          rw [e] at e1
          cases e1
          exact e2
        · exact absurd m nb
    have grown : ∀ p ∈ cs, ∃ more : Array Value, s'.heap.get? p.2 = some { cls := .none, data := .fields more } := fun p hp => by
      obtain ⟨more, z⟩ := un.tbls p.2 #[] (hH p hp)
      exact ⟨_, hok' p.2 _ z⟩
    refine ⟨rfl, ⟨fun b o e => ?_, fun b o e => ?_⟩, os, bs⟩
    · by_cases m : b ∈ T
      · obtain ⟨p, hp, rfl⟩ := ofT b m
        obtain ⟨more, hm⟩ := grown p hp
        rw [hT p hp] at e
        cases e
        exact .inr (.inl ⟨((C p hp).tab (hT p hp)).isCodeTable, rfl, #[], more, rfl, by rw [Array.empty_append]; exact hm⟩)
      · exact .inl (key b o m e)
    · by_cases m : b ∈ T
      · obtain ⟨p, hp, rfl⟩ := ofT b m
        obtain ⟨more, hm⟩ := grown p hp
        exact ⟨_, hm⟩
      · exact ⟨o, key b o m e⟩
/-- what is known of the law's promise at the head's heap -/
def LawG (l : PySem.W.OpenLaw) (w : World) (K : PySem.W.Frag) (CX : CXT) (k n : Nat) (x : Str) (mg : Str → Option Value) (fa : Addr) (h : Heap) : Prop :=
  ∃ (fd : FuncData) (cs : List (Addr × Addr)) (sp : Sp), ((∀ p ∈ cs, h.get? p.2 = some { cls := .none, data := .fields #[] }) ∧ (∀ p ∈ cs, K.lookup p.2 = none) ∧ (∀ p ∈ cs, PySem.W.CodeHd h p.1 p.2)) ∧ (∀ (s : Shared) (u : Value), BindsTo s fd ⟨[u], []⟩ [(x, u)]) ∧
    (∀ (H : Hp) (a : Addr) (ns : List Int), ns.length ≤ n → (∀ z ∈ ns, Builtin.Int.intBits z ≤ 1048576) → (∀ p ∈ cs, H p.2 = some (.tbl #[])) → SqL K H a (ns.map V.int) → sp [.ref a] H (fun v _ => v = .bl true) fun _ _ _ => False) ∧
    ∀ base : Heap, K.In base → base.Ns mainGlobals mg → (∀ p ∈ cs, TabB base mg p.1 p.2) → FnG l.prog w K mg base CX k fa fd [x] sp
end
theorem walk_G {l : PySem.W.OpenLaw} {n k : Nat} {q : Program} {loose : List Str} {XP : (Str → Option Value) → Heap → Prop} {YP : World → Heap → Prop} {d : DefRec} {K : Params → PySem.W.Frag} {CX : World → CXT} {x : Str}
    (hn : l.most = some n) (hn2 : n ≤ sizeLine) (hdf : d.params.defaults = []) (hr : Room k callerA) (hY : ∀ (w : World) (h : Heap), YP w h → (K w.params).In h)
    (F : ∀ (w : World) (mg : Str → Option Value) (fa : Addr) (h : Heap), YP w h → (K w.params).In h → h.Ns mainGlobals mg → mg d.name = some (.ref fa) → LawG l w (K w.params) (CX w) k n x mg fa h)
    (hCX : ∀ (w : World) (H : Hp) (s : Shared) (e : Value) (s' : Shared), CX w [] H s (fun _ _ _ => False) e s' → False) :
    PySem.W.WalkO q loose XP YP l.row.toRowW d [] (fun f vs => PySem.call f vs) := by
  refine Att.attach_callB hn hdf fun w s₀ s₁ mg mb fa o pm cd doc a vs ns G Y ho hd hcd hmg hobj hints hlen hbits hg => ?_
  have KX := hY w _ Y
  obtain ⟨fd, cs, sp, ⟨hT, nT, C⟩, hb, hsp, hF⟩ := F w mg fa _ Y KX G.T.g hmg
  exact law_callG KX G.T.g G.T.b G.T.builtins G.T.nolimit hg hT nT C G.T.bmain hobj hints (Nat.le_trans hlen hn2) hr hF hb (fun H hH hS => hsp H a ns hlen hbits hH hS) fun H e s' => hCX w H s₁ e s'
end OB
/-! Own errors with two fields, raised. -/
namespace OB
open PySem PySem.Spec PyProof.Rows L2
/-- __init__(self, f, g): self.f = f; self.g = g of an own error -/
def spInit2 (K : PySem.W.Frag) (f g : Str) : Sp := fun vs H Q _ => ∃ (a C : Addr) (v u : V), vs = [.ref a, v, u] ∧ OexC K C ∧ PySem.W.findIn K (.ref C) f = some none ∧ PySem.W.findIn K (.ref C) g = some none ∧ H a = some (exo a C none) ∧
  ∀ dx, H dx = none → dx ≠ a → Q .non (upd (upd H dx (exd dx [(g, u), (f, v)])) a (exo a C (some dx)))
section
variable {P : Program} {w : World} {K : PySem.W.Frag} {mg : Str → Option Value} {base : Heap}
theorem ok_init2 {qual : Str} {st : Stmt} {fI : Addr} {fd : FuncData} {f g : Str} {p1 p2 p3 p4 r1 r2 r3 r4 : Pos} (F : Fun K "__init__" qual st fI fd) (S : FnScope ["self", f, g] ["self", f, g] (defScope st)) (hfg : ¬ f = g)
    (hb : defBody st = [.Assign [.Attribute (.Name "self" p1) f p2] (.Name f p3) p4, .Assign [.Attribute (.Name "self" r1) g r2] (.Name g r3) r4])
    (hv : Vis (defScope st) f) (hw : Vis (defScope st) g) (hs : Vis (defScope st) "self") (hd : (f == ("__debug__" : Str)) = false := by decide) (hcd : (f == ("__classdict__" : Str)) = false := by decide)
    (hd2 : (g == ("__debug__" : Str)) = false := by decide) (hcd2 : (g == ("__classdict__" : Str)) = false := by decide)
    (hsw : ∀ env : Env, swapsWith (.Name f p3) (some (.Attribute (.Name "self" p1) f p2)) p4.line env = pure false := by intro _; rfl)
    (hsw2 : ∀ env : Env, swapsWith (.Name g r3) (some (.Attribute (.Name "self" r1) g r2)) r4.line env = pure false := by intro _; rfl) :
    FnOk P w K mg base CX0 1 fI fd ["self", f, g] (spInit2 K f g) := by
  refine F.ok S (fun vs H Q E h => ?_) (fun cdv A outer s H vs Q E hr h => ?_)
  · obtain ⟨a, C, v, u, rfl, _⟩ := h
    rfl
  · obtain ⟨a, C, v, u, rfl, T, no, no2, ha, k⟩ := h
    rw [hb]
    refine ⟨_, pss_cons (ps_ost (pe_var (i := 0) rfl hs) (pe_var (i := 1) rfl hv hd hcd) (hsw _)) (pss_one (ps_ost (pe_var (i := 0) rfl hs) (pe_var (i := 2) rfl hw hd2 hcd2) (hsw2 _))), ?_⟩
    refine ⟨v, rfl, .ref a, rfl, a, C, rfl, T, no, .inl ⟨ha, fun dx n ne => ?_⟩⟩
    refine ⟨u, rfl, .ref a, rfl, a, C, rfl, T, no2, ?_⟩
    refine .inr ⟨dx, [(f, v)], upd_same, by rw [upd_ne ne, upd_same], (by show 1 ≤ 900; decide), ?_⟩
    have e : upd (upd (upd H dx (exd dx [(f, v)])) a (exo a C (some dx))) dx (exd dx ((g, u) :: [(f, v)])) = upd (upd H dx (exd dx [(g, u), (f, v)])) a (exo a C (some dx)) := by
      funext b
      by_cases h1 : b = a
      · rw [h1, upd_ne ne.symm, upd_same, upd_same]
      · by_cases h2 : b = dx
        · rw [h2, upd_same, upd_ne ne, upd_same]
        · rw [upd_ne h2, upd_ne h1, upd_ne h2, upd_ne h1, upd_ne h2]
    rw [e]
    exact k dx n ne
/-- an own error class with two fields, as the top leaves it -/
structure Err2 (P : Program) (w : World) (K : PySem.W.Frag) (mg : Str → Option Value) (base : Heap) (x f g : Str) (C fI : Addr) (fd : FuncData) : Prop where
  T : OexC K C
  iC : PySem.W.findIn K (.ref C) "__init__" = some (some (.ref fI))
  tI : PySem.W.typeIn K (.ref fI) = some (.type "function")
  F : FnOk P w K mg base CX0 1 fI fd ["self", f, g] (spInit2 K f g)
  b : Binds K fd ["self", f, g] []
  gl : mg x = some (.ref C)
  no : PySem.W.findIn K (.ref C) f = some none
  no2 : PySem.W.findIn K (.ref C) g = some none
end
/-- raise X(e, e2) -/
def tRaise2 (K : PySem.W.Frag) (C : Addr) (f g : Str) (W : WX) (te te2 : TE) : TS := fun _ σ H => tMkO C (spInit2 K f g) [] (tCons te (tCons te2 tNil)) σ H fun cls d H' => W cls d σ H'
theorem raise2_of {K : PySem.W.Frag} {C : Addr} {f g : Str} {W : WX} {σ : L2.St} {H1 : Hp} {v u : V} (T : OexC K C) (no : PySem.W.findIn K (.ref C) f = some none) (no2 : PySem.W.findIn K (.ref C) g = some none) (h : ∀ d, H1 d = none → W (.ref C) (some d) σ (upd H1 d (.xd [(g, u), (f, v)]))) :
    tNil σ H1 fun xs H2 => (v :: u :: xs).length ≤ 1000 ∧ ∀ a, H2 a = none → spInit2 K f g (.ref a :: ((v :: u :: xs) ++ [])) (upd H2 a (exo a C none))
      (fun z H3 => z = .non ∧ ∃ (d : Addr) (fs : List (Str × V)), H3 a = some (exo a C (some d)) ∧ H3 d = some (exd d fs) ∧ H2 d = none ∧ W (.ref C) (some d) σ (upd (del H3 a) d (.xd fs))) (fun _ _ _ => False) := by
  refine ⟨by show 2 ≤ 1000; decide, fun a ha => ⟨a, C, v, u, rfl, T, no, no2, upd_same, fun dx nd ne => ?_⟩⟩
  rw [upd_ne ne] at nd
  refine ⟨rfl, dx, [(g, u), (f, v)], upd_same, ?_, nd, ?_⟩
  · rw [upd_ne ne, upd_same]
  · rw [del_back ha ne]
    exact h dx nd
theorem ps_raise2 {X : Cx} {W : WX} {x f g : Str} {C fI : Addr} {fd : FuncData} {e e2 : Expr} {te te2 : TE} {p p2 pos : Pos} (hc : X.calm = true) (tk : Takes X W) (R : Err2 X.prog X.w X.K X.mg X.base x f g C fI fd) (hr : Room 2 X.A) (hg : Gl X x) (he : PE X e te) (he2 : PE X e2 te2)
    (hx : Passes CX0 X (fun _ _ _ => False) := by exact pass0) (hs2 : starEach [e2] X.env = [(false, eval e2 X.env)] := by rfl) (hs : starEach [e, e2] X.env = (false, eval e X.env) :: starEach [e2] X.env := by rfl) (hdb : (x == ("__debug__" : Str)) = false := by decide)
    (hpl : (backTo p2 (starEach [e2] X.env)).any (·.1) = false := by rfl) :
    PS X (.Raise (some (.Call (.Name x p) [e, e2] [] p2)) none pos) (tRaise2 X.K C f g W te te2) :=
  ps_raise (pos := pos) hc tk (pmk_oex (p := p) (pos := p2) R.T R.iC R.tI R.F hr R.b .nil hx hg R.gl (pa_cons he (pa_cons he2 pa_nil hs2) hs) hdb hs hpl)
end OB
/-! == and != of an own object with any value, by the class's own __eq__, with both answers. -/
namespace OB
open PySem PySem.Spec PyProof.Rows L2
section
variable {X : Cx} {n : Nat} {A : Around} {pins : List (Addr × Obj)} {σ : L2.St} {H : Hp} {s : Shared}
theorem sub_run {CX : CXT} {f : Addr} {fd : FuncData} {ps : List Str} {sp : Sp} {E : XK} {Q : VK} {us : List Value} {vs : List V} (F : FnOk X.prog X.w X.K X.mg X.base CX n f fd ps sp) (hb : L2.Binds X.K fd ps []) (hx : Passes CX X E)
    (sb : Sub X n A) (I : Inv X pins σ H s) (r : Vals vs us) (h : sp vs H Q E) : wpAny (model X.prog X.w) A (call (.ref f) us) (EP X pins σ Q) X.xe s := by
  have e0 : Env0 X.prog X.w X.K X.mg X.base A X.stack s H := by
    have e := I.env0
    exact ⟨by rw [sb.fr]; exact e.frames, e.mod, e.bs, e.bsz, e.funs, e.frf, e.hok, e.bare⟩
  have hl := F.len _ _ _ _ h
  have hl2 : us.length = ps.length := by rw [← r.length]; exact hl
  refine wpAny_call (codeAny_mono (F.run A X.stack s H ⟨us, []⟩ us vs Q E sb.room e0 (by
    have := hb s us I.kIn (by simpa using hl2)
    simpa using this) r h) fun r s' hq => ?_)
  cases r with
  | error e => exact hx pins σ H s e s' I hq
  | ok fl =>
    cases fl with
    | ret w =>
      obtain ⟨z, H', I', rz, q⟩ := I.after hq
      exact ⟨z, H', I', rz, q⟩
    | next => exact False.elim hq
    | brk => exact False.elim hq
    | cont => exact False.elim hq
end
/-- of the two the left one is asked first -/
def NotFirst (K : PySem.W.Frag) (C : Addr) (y : V) (H : Hp) : Prop := (∃ b dy gs, y = .ref b ∧ H b = some (.ins C dy gs)) ∨ (∃ b xs, y = .ref b ∧ SqT K H b xs ∧ PySem.W.subIn K (.type "tuple") (.ref C) = some false)
section
variable {X : Cx} {pins : List (Addr × Obj)} {σ : L2.St} {H : Hp} {s : Shared}
theorem nf_looks {C : Addr} {y : V} {v : Value} (I : Inv X pins σ H s) (ry : RelV y v) (h : NotFirst X.K C y H) : ∃ tb, PySem.W.Looks (model X.prog X.w) s.heap (typeOf v) tb ∧ PySem.W.notFirst X.K C tb = true := by
  rcases h with ⟨b, dy, gs, rfl, hb⟩ | ⟨b, xs, rfl, hb, hs⟩
  · cases (show v = Value.ref b from ry)
    obtain ⟨mB, J, _⟩ := ins_get I.hok hb
    obtain ⟨od, J, _⟩ := J.look
    exact ⟨.ref C, J.type, by simp [PySem.W.notFirst]⟩
  · cases (show v = Value.ref b from ry)
    obtain ⟨its, r, ⟨o, ho, hc, _⟩, z⟩ := I.tuple hb
    refine ⟨.type "tuple", hc ▸ (PySem.W.Looks.ld (part := none) ho).andThen .now, ?_⟩
    unfold PySem.W.notFirst
    rw [hs]
    simp
end
section
variable {prog : Program} {w : World} {A : Around} {E : Value → Shared → Prop} {s : Shared} {K : PySem.W.Frag} {x C L f : Addr} {h₀ : Heap} {m : Str → Option Value} {ox : Obj} {od : Option Obj} {name : Str} {b tb : Value}
open PySem.W PySem.Builtin in
theorem ifBound_bi {M : Model} {id : String} {args : List Value} {Q : Option Value → Shared → Prop} (X : K.In s.heap) (I : InstAt s.heap x ox C od) (hs : findIn K (.ref C) name = some (some (.builtin id)))
    (hb : ∀ self, bindSpecial (.builtin id) self = pure (.builtin id, [self])) (h : wpAny M A (call (.builtin id) (.ref x :: args)) (fun v => Q (some v)) E s) : wpAny M A (callSpecialIfBound? (.ref x) name args) Q E s := by
  simp only [callSpecialIfBound?, bindSpecialIfBound?]
  refine wpAny_holding (wpAny_bind (wpAny_bind (wpAny_bind (I.type.here ((looks_findIn X hs).here ?_)))))
  refine wpAny_bind (wpAny_askSetting (wpAny_ite ?_))
  have fin : wpAny M A (call (.builtin id) ([.ref x] ++ args) >>= fun v => pure (some v)) Q E s := wpAny_bind (wpAny_mono h (fun v s' h' => wpAny_pure h') fun _ _ h' => h')
  split
  · exact wpAny_bind ((Looks.of_pure (hb _)).here (wpAny_pure (by exact fin)))
  · exact wpAny_tryCatch (wpAny_bind ((Looks.of_pure (hb _)).here (wpAny_pure (by exact fin))))
open PySem.W PySem.Builtin in
theorem cmp_ne {Q : Value → Shared → Prop} (hu : A.units + 1 < cLine) (hu1 : A.in1.units < cLine) (F : Fr h₀ L s.heap m) (X₀ : K.In h₀) (I : InstAt s.heap x ox C od) (hb : Looks (model prog w) s.heap (typeOf b) tb) (hn : notFirst K C tb = true)
    (hne : findIn K (.ref C) "__ne__" = some (some (.builtin "object.__ne__"))) (hm : mroIn K C (.type "object") = some true)
    (hs : findIn K (.ref C) "__eq__" = some (some (.ref f))) (hf : isFn K (.ref f) = true)
    (h : wpAny (model prog w) A.in1 (call (.ref f) [.ref x, b]) (fun v s' => ∃ k, v = .bool k ∧ Q (.bool (!k)) s') E s) : wpAny (model prog w) A (richCompare .NotEq (.ref x) b) Q E s := by
  have X := X₀.keeps F.keep
  have body : wpAny (model prog w) A (call (.builtin "object.__ne__") [.ref x, b]) (fun v s' => ∃ k, v = .bool k ∧ Q v s') E s := by
    refine wpAny_call (codeAny_call_builtin PySem.F.slot_object_ne.plain PySem.F.entry_object_ne (check_slot (i := "object.__ne__") (owner := "object") (n := "__ne__") (by decide +kernel) (by decide +kernel) (I.type.andThen (looks_mroIn X hm)) (PySem.F.args_object_ne_2 _ _) ?_))
    unfold Builtin.«object.__ne__»
    refine wpAny_bind (m := slotArgs "__ne__" 1 _) (wpAny_pure ?_)
    refine wpAny_bind (m := cRoomFor _ _) (wpAny_cRoomFor hu1 ?_)
    refine wpAny_bind (m := callSpecialIfBound? (.ref x) (Str.ofString "__eq__") _) (ifBound_K X I hs hf (wpAny_mono h (fun r s' hq => ?_) fun _ _ y => y))
    obtain ⟨k, rfl, q⟩ := hq
    refine wpAny_bind (m := truthy (.bool k)) (wpAny_truthy_bool ?_)
    exact wpAny_pure ⟨!k, rfl, q⟩
  have one : wpAny (model prog w) A (tryCompare (.ref x) (cmpInfo .NotEq).2.1 b) (fun r s' => ∃ v, r = some v ∧ Q v s') E s := by
    unfold tryCompare
    refine wpAny_bind (ifBound_bi X I hne PySem.F.slot_object_ne.bind (wpAny_mono body (fun v s' hv => ?_) fun _ _ e => e))
    obtain ⟨k, rfl, q⟩ := hv
    exact wpAny_pure ⟨_, rfl, q⟩
  unfold richCompare
  simp only [oneThing_ref]
  refine wpAny_holding (wpAny_bind (wpAny_cRoomFor (Nat.lt_of_succ_lt hu) ?_))
  refine wpAny_bind (I.type.here (wpAny_bind (hb.here ?_)))
  split
  · rename_i q
    have e : subIn K tb (.ref C) = some false := by
      rcases Bool.or_eq_true_iff.mp hn with e | e
      · rw [beq_iff_eq.mp e] at q; simp at q
      · exact beq_iff_eq.mp e
    refine wpAny_bind ((looks_subIn X e).here ?_)
    simp only [Bool.false_eq_true, if_false]
    refine wpAny_bind (wpAny_mono one (fun r s' z => ?_) fun _ _ e => e)
    obtain ⟨v, rfl, hq⟩ := z
    exact wpAny_pure hq
  · refine wpAny_bind (wpAny_pure ?_)
    simp only [Bool.false_eq_true, if_false]
    refine wpAny_bind (wpAny_mono one (fun r s' z => ?_) fun _ _ e => e)
    obtain ⟨v, rfl, hq⟩ := z
    exact wpAny_pure hq
end
/-- a class's own ==: where its def stands, and that != is the usual one -/
structure OwnEqC (K : PySem.W.Frag) (C f : Addr) : Prop where
  eq : PySem.W.findIn K (.ref C) "__eq__" = some (some (.ref f))
  fn : PySem.W.isFn K (.ref f) = true
  ne : PySem.W.findIn K (.ref C) "__ne__" = some (some (.builtin "object.__ne__"))
  ob : PySem.W.mroIn K C (.type "object") = some true
def rEqO (K : PySem.W.Frag) (C : Addr) (sp : Sp) (E : XK) : R2 := fun x y H Q => ∃ a dx fs, x = .ref a ∧ H a = some (.ins C dx fs) ∧ NotFirst K C y H ∧ sp [x, y] H (fun v H' => ∃ b, v = .bl b ∧ Q (.bl b) H') E
def rNeO (K : PySem.W.Frag) (C : Addr) (sp : Sp) (E : XK) : R2 := fun x y H Q => ∃ a dx fs, x = .ref a ∧ H a = some (.ins C dx fs) ∧ NotFirst K C y H ∧ sp [x, y] H (fun v H' => ∃ b, v = .bl b ∧ Q (.bl (!b)) H') E
section
variable {X : Cx} {n : Nat} {CX : CXT} {C f : Addr} {fd : FuncData} {ps : List Str} {sp : Sp} {E : XK}
theorem op_eqO (F : FnOk X.prog X.w X.K X.mg X.base CX n f fd ps sp) (O : OwnEqC X.K C f) (hb : L2.Binds X.K fd ps []) (hx : Passes CX X E) (hr : Room n X.A) : OpR X (compareOp .Eq) (rEqO X.K C sp E) := by
  intro pins s σ H x y v u Q I rx ry hq
  obtain ⟨a, dx, fs, rfl, ha, nf, h⟩ := hq
  cases (show v = Value.ref a from rx)
  obtain ⟨mA, J, _⟩ := ins_get I.hok ha
  obtain ⟨od, J, _⟩ := J.look
  obtain ⟨m, hF⟩ := I.fr
  obtain ⟨tb, L, nf⟩ := nf_looks I ry nf
  show wpAny (model X.prog X.w) X.A (richCompare .Eq (.ref a) u) (EP X pins σ Q) X.xe s
  refine PySem.W.cmp_K (op := .Eq) hr.units0 hF I.ok.mod.kin J L nf O.eq O.fn ?_
  refine wpAny_mono (sub_run F hb hx ⟨hr, rfl⟩ I (Paired.cons (show L2.RelV (.ref a) (.ref a) from rfl) (.cons ry .nil)) h) (fun r s' q => ?_) fun _ _ z => z
  obtain ⟨z, H', I', rz, b, rfl, q⟩ := q
  cases rz
  exact ⟨.bl b, H', I', rfl, q⟩
theorem op_neO (F : FnOk X.prog X.w X.K X.mg X.base CX n f fd ps sp) (O : OwnEqC X.K C f) (hb : L2.Binds X.K fd ps []) (hx : Passes CX X E) (hr : Room (n + 1) X.A) : OpR X (compareOp .NotEq) (rNeO X.K C sp E) := by
  intro pins s σ H x y v u Q I rx ry hq
  obtain ⟨a, dx, fs, rfl, ha, nf, h⟩ := hq
  cases (show v = Value.ref a from rx)
  obtain ⟨mA, J, _⟩ := ins_get I.hok ha
  obtain ⟨od, J, _⟩ := J.look
  obtain ⟨m, hF⟩ := I.fr
  obtain ⟨tb, L, nf⟩ := nf_looks I ry nf
  show wpAny (model X.prog X.w) X.A (richCompare .NotEq (.ref a) u) (EP X pins σ Q) X.xe s
  refine cmp_ne (by have := hr.units; omega) hr.in1.units0 hF I.ok.mod.kin J L nf O.ne O.ob O.eq O.fn ?_
  refine wpAny_mono (sub_run F hb hx ⟨hr.in1, rfl⟩ I (Paired.cons (show L2.RelV (.ref a) (.ref a) from rfl) (.cons ry .nil)) h) (fun r s' q => ?_) fun _ _ z => z
  obtain ⟨z, H', I', rz, b, rfl, q⟩ := q
  cases rz
  exact ⟨b, rfl, .bl (!b), H', I', rfl, q⟩
end
end OB
/-! Static methods off a class, str of an own object by its own __str__, making by keywords alone. -/
namespace OB
open PySem PySem.Spec PyProof.Rows L2 ClX
/-- C.m is a static method: its record at p, its def at g -/
structure CStat (K : PySem.W.Frag) (C : Addr) (mc : Value) (m : Str) (p g : Addr) : Prop where
  at_ : PySem.W.findCls K (.ref C) mc m = some (.get (.builtin "staticmethod.__get__") (.ref p) .none (.ref C))
  rc : ∃ rest, PySem.W.recIn K p "staticmethod" = some (.ref g :: rest)
  kp : PySem.W.keepIn K (.ref g) = true
/-- e.m(..), e the class at C -/
def tSMeth (C : Addr) (sp : Sp) (E : XK) (ta : TE) (t : TA) : TE := fun σ H Q => ta σ H fun x H1 => x = .ref C ∧ t σ H1 fun vs H2 => sp vs H2 Q E
def tSMethK (C : Addr) (sp : Sp) (gV : List V → List V → List V) (E : XK) (ta : TE) (tk : TA) : TE := fun σ H Q => ta σ H fun x H1 => x = .ref C ∧ tk σ H1 fun zs H2 => sp (gV [] zs) H2 Q E
section
variable {X : Cx} {pins : List (Addr × Obj)} {σ : L2.St} {H : Hp} {s : Shared} {C p g : Addr} {mc : Value} {m : Str} {A : Around} {E : Value → Shared → Prop}
theorem getmethsm_ok {pl : Sem Bool} {Q : Value × List Value → Shared → Prop} (I : Inv X pins σ H s) (r : CRead X.K C mc) (k : CStat X.K C mc m p g)
    (h : ∀ s', Inv X pins σ H s' → Q (.ref g, []) s') : wpAny (model X.prog X.w) A (getMethod (.ref C) m pl) Q E s := by
  obtain ⟨rest, hp⟩ := k.rc
  exact PySem.W.method_cls I.kIn r.ga (PySem.W.cls_bind I.kIn r.rd k.at_ (wpAny_call (PySem.W.sm_get (s := { s with toks := s.toks + 1 }) I.kIn hp (PySem.W.handed_on rfl (h _ (I.tok _))))))
end
section
variable {X : Cx} {CX : CXT} {k : Nat} {C p g : Addr} {fd : FuncData} {ps ks : List Str} {mc : Value} {sp : Sp} {E : XK} {o e : Expr} {es : List Expr} {kws : List Keyword} {m : Str} {pos apos : Pos} {ta : TE} {t tk : TA} {pl : Sem Bool} {gg : List Value → List Value → List Value} {gV : List V → List V → List V}
theorem pe_smeth (he : PE X o ta) (r : CRead X.K C mc) (c : CStat X.K C mc m p g) (F : FnOk X.prog X.w X.K X.mg X.base CX k g fd ps sp) (hr : Room k X.A) (hb : L2.Binds X.K fd ps []) (hx : Passes CX X E) (ha : PA X (e :: es) t)
    (hst : starEach (e :: es) X.env = (false, eval e X.env) :: starEach es X.env := by rfl) (hpl : (backTo pos (starEach es X.env)).any (·.1) = false := by rfl)
    (ht : eval (.Call (.Attribute o m apos) (e :: es) [] pos) X.env = (do
      let ov ← eval o X.env
      standAt apos.atName
      let (f, first) ← holding [ov] (getMethod ov m pl)
      callWith pos f first (backTo pos (starEach (e :: es) X.env)) (backToKw pos (keywordEach [] X.env))) := by rfl) :
    PE X (.Call (.Attribute o m apos) (e :: es) [] pos) (tSMeth C sp E ta t) := by
  refine ⟨fun pins s σ H Q I h => ?_⟩
  refine PySem.W.methodCall_KW (pl := pl) (thn (he.run pins s σ H _ I h) fun u s1 ⟨x, H1, I1, rx, ex, q⟩ => ?_) ht
  subst ex
  obtain rfl : u = Value.ref C := rx
  refine getmethsm_ok I1 r c fun s2 I2 => ?_
  refine PySem.W.callWith_K (h₀ := X.base) (first := []) I.ok.mod.kin c.kp (thn (ha.run pos pins s2 σ H1 _ I2 q) fun us s3 ⟨vs, H2, I3, rv, q2⟩ => ⟨I3.kIn, ?_⟩) hst hpl
  exact run_fn F hr hb .nil hx I3 rv (by rw [List.append_nil]; exact q2)
theorem pe_smethK (he : PE X o ta) (r : CRead X.K C mc) (c : CStat X.K C mc m p g) (F : FnOk X.prog X.w X.K X.mg X.base CX k g fd ps sp) (hr : Room k X.A) (hb : KBinds X.K fd ps ks gg gV) (hx : Passes CX X E) (hkw : PK X kws tk)
    (hall : (backToKw pos (keywordEach kws X.env)).all (·.1.isSome) = true := by rfl) (hks : (backToKw pos (keywordEach kws X.env)).filterMap (·.1) = ks := by rfl)
    (hpl : ((backTo pos (starEach [] X.env)).any (·.1) || (backToKw pos (keywordEach kws X.env)).any (·.1.isNone)) = false := by rfl)
    (ht : eval (.Call (.Attribute o m apos) [] kws pos) X.env = (do
      let ov ← eval o X.env
      standAt apos.atName
      let (f, first) ← holding [ov] (getMethod ov m pl)
      callWith pos f first (backTo pos (starEach [] X.env)) (backToKw pos (keywordEach kws X.env))) := by rfl) :
    PE X (.Call (.Attribute o m apos) [] kws pos) (tSMethK C sp gV E ta tk) := by
  refine ⟨fun pins s σ H Q I h => ?_⟩
  refine PySem.W.methodCall_KW (pl := pl) (thn (he.run pins s σ H _ I h) fun u s1 ⟨x, H1, I1, rx, ex, q⟩ => ?_) ht
  subst ex
  obtain rfl : u = Value.ref C := rx
  refine getmethsm_ok I1 r c fun s2 I2 => ?_
  refine PySem.W.callWith_KW0 (h₀ := X.base) I.ok.mod.kin c.kp hall ?_ hpl
  refine thn (hkw.run pos pins s2 σ H1 _ I2 q) fun ws s3 ⟨zs, H2, I3, rz, q2⟩ => ⟨I3.kIn, ?_⟩
  rw [hks]
  exact run_fnk (us := []) F hr hb hx I3 .nil rz q2
end
/-- how keywords alone bind, from how they bind at all -/
theorem kbn {K : PySem.W.Frag} {fd : FuncData} {ps ks : List Str} {g : List Value → List Value → List Value} {gV : List V → List V → List V} {n : Nat} (h : KBinds K fd ps ks g gV) (hl : ∀ us ws, us.length = n → ws.length = ks.length → (g us ws).length = ps.length) : KBn K fd ps n ks g gV :=
  ⟨fun s us ws X h1 h2 => h.to s us ws X (hl us ws h1 h2), h.rel⟩
/-- a class's own __str__ -/
structure OwnStrC (K : PySem.W.Frag) (C f : Addr) : Prop where
  st : PySem.W.findIn K (.ref C) "__str__" = some (some (.ref f))
  fn : PySem.W.isFn K (.ref f) = true
section
variable {prog : Program} {w : World} {A : Around} {E : Value → Shared → Prop} {s : Shared} {K : PySem.W.Frag} {x C f : Addr} {ox : Obj} {od : Option Obj}
open PySem.W PySem.Builtin PySem.Builtin.Str in
theorem str_own {Q : Value → Shared → Prop} (hu : A.in1.in1.units < cLine) (X : K.In s.heap) (I : InstAt s.heap x ox C od) (hs : findIn K (.ref C) "__str__" = some (some (.ref f))) (hf : isFn K (.ref f) = true)
    (h : wpAny (model prog w) A.in1.in1 (call (.ref f) [.ref x]) (StrBack Q) E s) : wpAny (model prog w) A (call (.type "str") [.ref x]) Q E s := by
  refine callType_codes (T := "str") (Bi := Builtin.«object.__init__») (Q₁ := fun r s₁ => ∃ y u, r = .str y u ∧ Q r s₁) PySem.F.called_str (PySem.F.typeCall_str_1 _) PySem.F.entry_object_init ?_ ?_
  · refine codeAny_of_tree ?_
    show wpAny _ A.in1.in1 (do checkBuiltinCall "str.__new__" ⟨[.type "str", .ref x], []⟩; again (.builtin "str.__new__" ⟨[.type "str", .ref x], []⟩)) _ _ s
    refine wpAny_bind (wpAny_of_eq (PySem.F.newCall_str_1 _) (wpAny_pure ⟨plainId_quiet (by decide +kernel) _, codeAny_builtin PySem.F.entry_str_new ?_⟩))
    rw [Around.under_plainId (by decide +kernel) _]
    rw [str_new_tree]
    refine wpAny_bind (wpAny_pure ?_)
    refine wpAny_bind (wpAny_of_eq isSubtype_str_str ?_)
    have key : wpAny (model prog w) A.in1.in1 (PySem.Builtin.Str.strOf (.ref x)) (fun r s₁ => ∃ y u, r = .str y u ∧ Q r s₁) E s := by
      unfold PySem.Builtin.Str.strOf
      rw [show isExactStr (.ref x) = false from rfl]
      refine wpAny_bind (m := cRoomFor _ _) (wpAny_cRoomFor hu ?_)
      refine wpAny_bind (m := callSpecial? (.ref x) (Str.ofString "__str__")) (special_fn X I hs (beq_iff_eq.mp hf) (wpAny_mono h (fun r s' z => ?_) fun _ _ y => y))
      cases r <;> first | exact z.elim | exact wpAny_pure ⟨_, _, rfl, z⟩
    exact wpAny_bind (wpAny_mono key (fun r s₁ hr => wpAny_pure hr) fun _ _ y => y)
  · rintro obj s₁ ⟨y, u, rfl, hq⟩
    exact ⟨typeIs_str _ _ _, PySem.F.args_object_init_2 _ _, object_init_meets PySem.F.called_str.init.lookup PySem.F.called_str.made (by decide) prog w A.in1 _ s₁ ⟨typeIs_str _ _ _, rfl, hq⟩⟩
end
/-- str(o), o an instance of the class at C -/
def rStrO (C : Addr) (sp : Sp) (E : XK) : List V → Hp → VK → Prop := fun xs H Q => ∃ a dx fs, xs = [.ref a] ∧ H a = some (.ins C dx fs) ∧ sp [.ref a] H (fun v H' => ∃ z, v = .str z ∧ Q (.str z) H') E
section
variable {X : Cx} {n : Nat} {CX : CXT} {C f : Addr} {fd : FuncData} {ps : List Str} {sp : Sp} {E : XK}
theorem call_strO (F : FnOk X.prog X.w X.K X.mg X.base CX n f fd ps sp) (O : OwnStrC X.K C f) (hb : L2.Binds X.K fd ps []) (hx : Passes CX X E) (hr : Room (n + 2) X.A) : CallR X (.type "str") (rStrO C sp E) := by
  intro pins s σ H xs us Q I r h
  obtain ⟨a, dx, fs, rfl, ha, h⟩ := h
  rw [Vals.ref1 r]
  obtain ⟨mA, J, _⟩ := ins_get I.hok ha
  obtain ⟨od, J, _⟩ := J.look
  refine str_own hr.in1.in1.units0 I.kIn J O.st O.fn ?_
  refine wpAny_mono (sub_run F hb hx ⟨hr.in1.in1, rfl⟩ I (Paired.cons (show L2.RelV (.ref a) (.ref a) from rfl) .nil) h) (fun r s' q => ?_) fun _ _ z => z
  obtain ⟨z, H', I', rz, y, rfl, q⟩ := q
  obtain ⟨t, rfl⟩ := (show ∃ t, r = Value.str y t from rz)
  exact ⟨.str y, H', I', ⟨_, rfl⟩, q⟩
end
end OB
/-! An own class, as the top leaves it; what an object of it is when it is asked for its kind. -/
namespace OB
open PySem PySem.Spec PyProof.Rows L2 ClX
structure OwnC (K : PySem.W.Frag) (mg : Str → Option Value) (x : Str) (C fI : Addr) : Prop where
  cl : Cls K C
  g : mg x = some (.ref C)
  made : Mk K C fI
  ha : PySem.W.findIn K (.ref C) "__class__" = some (some (.builtin "object.__class__"))
  hn : PySem.W.specialIn K (.builtin "object.__class__") "__get__" = some (some (.builtin "getset_descriptor.__get__"))
  ht : PySem.W.takesIn K (.builtin "object.__class__") = some true
  hm : PySem.W.mroIn K C (.type "object") = some true
  self : PySem.W.kitOne K (.ref C) (.ref C) = some true
  no : ∀ n ∈ ["NoneType", "int", "bool", "str", "list", "tuple", "dict"], PySem.W.kitOne K (.type n) (.ref C) = some false
  sT : PySem.W.subIn K (.type "tuple") (.ref C) = some false
section
variable {K : PySem.W.Frag} {mg : Str → Option Value} {x : Str} {C fI : Addr}
theorem OwnC.ty (Z : OwnC K mg x C fI) {H : Hp} {a dx : Addr} {fs : List (Str × V)} (e : H a = some (.ins C dx fs)) : TyX K H (.ref a) (.ref C) := .base (.ins e Z.cl Z.ha Z.hn Z.ht Z.hm)
/-- a value is no object of the class -/
def NotO (K : PySem.W.Frag) (C : Addr) (H : Hp) (y : V) : Prop := ∃ t, TyX K H y t ∧ PySem.W.kitOne K t (.ref C) = some false
theorem OwnC.non (Z : OwnC K mg x C fI) {H : Hp} : NotO K C H .non := ⟨_, .base .non, Z.no _ (by decide)⟩
theorem OwnC.int (Z : OwnC K mg x C fI) {H : Hp} (i : Int) : NotO K C H (.int i) := ⟨_, .base (.int i), Z.no _ (by decide)⟩
theorem OwnC.bl (Z : OwnC K mg x C fI) {H : Hp} (i : Bool) : NotO K C H (.bl i) := ⟨_, .base (.bl i), Z.no _ (by decide)⟩
theorem OwnC.str (Z : OwnC K mg x C fI) {H : Hp} (i : Str) : NotO K C H (.str i) := ⟨_, .base (.str i), Z.no _ (by decide)⟩
theorem OwnC.lst (Z : OwnC K mg x C fI) {H : Hp} {a : Addr} {xs : List V} (e : H a = some (.lst xs)) : NotO K C H (.ref a) := ⟨_, .base (.lst e), Z.no _ (by decide)⟩
theorem OwnC.tup (Z : OwnC K mg x C fI) {H : Hp} {a : Addr} {xs : List V} (e : H a = some (.tup xs)) : NotO K C H (.ref a) := ⟨_, .base (.tup e), Z.no _ (by decide)⟩
theorem OwnC.dK (Z : OwnC K mg x C fI) {H : Hp} {a : Addr} {xs : List (Key × V)} (e : H a = some (.dK xs)) : NotO K C H (.ref a) := ⟨_, .base (.dK e), Z.no _ (by decide)⟩
end
end OB
/-! A call by keywords alone that may raise. -/
namespace OB
open PySem PySem.Spec PyProof.Rows L2
section
variable {X : Cx} {CX : CXT} {k : Nat} {f : Addr} {fd : FuncData} {ps ks : List Str} {sp : Sp} {E : L2.St → XK} {x : Str} {p pos : Pos} {e : Expr} {es : List Expr} {kws : List Keyword} {t tk : TA} {g : List Value → List Value → List Value} {gV : List V → List V → List V}
def tCallKS (sp : Sp) (gV : List V → List V → List V) (E : L2.St → XK) (t tk : TA) : TE := fun σ H Q => t σ H fun vs H1 => tk σ H1 fun zs H2 => sp (gV vs zs) H2 Q (E σ)
theorem run_fnkS {pins : List (Addr × Obj)} {σ : L2.St} {H : Hp} {s : Shared} {Q : VK} {us ws : List Value} {vs zs : List V} {E : XK} (F : FnOk X.prog X.w X.K X.mg X.base CX k f fd ps sp) (hr : Room k X.A) (hb : KBinds X.K fd ps ks g gV) (hx : PassesAt CX X σ E)
    (I : Inv X pins σ H s) (r : Vals vs us) (rz : Vals zs ws) (h : sp (gV vs zs) H Q E) : wpAny (model X.prog X.w) X.A (call (.ref f) us (ks.zip ws)) (EP X pins σ Q) X.xe s := by
  have r2 := hb.rel r rz
  have hl : (g us ws).length = ps.length := r2.length ▸ F.len _ _ _ _ h
  refine wpAny_call (codeAny_mono (F.run X.A X.stack s H ⟨us, ks.zip ws⟩ (g us ws) (gV vs zs) Q E hr I.env0 (hb.to s us ws I.kIn hl) r2 h) fun res s' hq => ?_)
  match res, hq with
  | .error _, hq => exact hx pins H s _ s' I hq
  | .ok (.ret _), hq => exact I.after hq
theorem pe_callKoS (F : FnOk X.prog X.w X.K X.mg X.base CX k f fd ps sp) (hr : Room k X.A) (hg : Gl X x) (hm : X.mg x = some (.ref f)) (hk : PySem.W.keepIn X.K (.ref f) = true) (hb : KBinds X.K fd ps ks g gV) (hx : ∀ σ, PassesAt CX X σ (E σ))
    (hkw : PK X kws tk) (hall : (backToKw pos (keywordEach kws X.env)).all (·.1.isSome) = true := by rfl) (hks : (backToKw pos (keywordEach kws X.env)).filterMap (·.1) = ks := by rfl)
    (hdb : (x == ("__debug__" : Str)) = false := by decide)
    (hpl : ((backTo pos (starEach [] X.env)).any (·.1) || (backToKw pos (keywordEach kws X.env)).any (·.1.isNone)) = false := by rfl) :
    PE X (.Call (.Name x p) [] kws pos) (tCallKS sp gV E tNil tk) := by
  refine ⟨fun pins s σ H Q I h => wpAny_Call_Name_kw (ld_glob I hg hm ?_ hdb)⟩
  refine PySem.W.callWith_KW0 (h₀ := X.base) I.ok.mod.kin hk hall ?_ hpl
  refine thn (hkw.run pos pins s σ H _ I h) fun ws s2 ⟨zs, H2, I2, rz, q2⟩ => ⟨I2.kIn, ?_⟩
  rw [hks]
  exact run_fnkS (us := []) F hr hb (hx σ) I2 .nil rz q2
end
/-- some of a list, by their places -/
def pm {α : Type} : List Nat → List α → List α
  | [], _ => []
  | i :: r, l => match l[i]? with
    | some x => x :: pm r l
    | none => pm r l
theorem pm_vals {vs : List V} {us : List Value} (h : Vals vs us) : ∀ is, Vals (pm is vs) (pm is us)
  | [] => .nil
  | i :: r => by
    unfold pm
    cases e : vs[i]? with
    | none =>
      have e2 : us[i]? = none := by
        rw [List.getElem?_eq_none_iff] at e ⊢
        rw [← h.length]
        exact e
      rw [e2]
      exact pm_vals h r
    | some x =>
      obtain ⟨u, hu, ru⟩ := h.get e
      rw [hu]
      exact .cons ru (pm_vals h r)
/-- keywords alone, in any order -/
def kg {α : Type} (is : List Nat) : List α → List α → List α
  | [], ws => pm is ws
  | _ :: _, _ => []
theorem kg_vals {is : List Nat} {vs : List V} {us : List Value} {zs : List V} {ws : List Value} (h : Vals vs us) (r : Vals zs ws) : Vals (kg is vs zs) (kg is us ws) := by
  cases h with
  | nil => exact pm_vals r is
  | cons _ _ => exact .nil
/-- .. behind the object itself -/
def kg1 {α : Type} (is : List Nat) : List α → List α → List α
  | [x], ws => x :: pm is ws
  | _, _ => []
theorem kg1_vals {is : List Nat} {vs : List V} {us : List Value} {zs : List V} {ws : List Value} (h : Vals vs us) (r : Vals zs ws) : Vals (kg1 is vs zs) (kg1 is us ws) := by
  cases h with
  | nil => exact .nil
  | cons a b =>
    cases b with
    | nil => exact .cons a (pm_vals r is)
    | cons _ _ => exact .nil
end OB
/-! repr of a text; numbers as items of texts. -/
namespace OB
open PySem PySem.Spec PyProof.Rows L2
section
variable {X : Cx}
def rReprS : List V → Hp → VK → Prop := fun xs H Q => ∃ z : Str, xs = [.str z] ∧ z.length ≤ 1000000 ∧ (∀ c ∈ z.cps.toList, c < 16 ^ 8) ∧ Q (.str (reprText z)) H
theorem call_reprS : CallR X (.builtin "repr") rReprS := by
  intro pins s σ H xs us Q I r h
  obtain ⟨z, rfl, hz, hc, q⟩ := h
  obtain ⟨u, rfl, t, rfl⟩ := vals1 r
  refine PySem.P.repr_of_str ⟨.str _, H, I.tok _, ⟨_, rfl⟩, q⟩ ?_
  have := PySem.StrLaws.reprText_len z hc
  rw [sizeLine_eq]
  omega
end
/-- how a number from 0 on is written -/
def ds (n : Nat) : Str := toString (n : Int)
/-- what the small ones are like -/
theorem ds_small : ∀ n < 256, Txt.removeprefix (ds n) "-" = ds n ∧ Txt.isascii (ds n) = true ∧ Txt.isdigit (ds n) = true ∧ (ds n).length ≤ 3 ∧ (Txt.startswith (ds n) "0" = true → n = 0) ∧ PySem.intText? (ds n) = some (n : Int) ∧ ds n ≠ "-" ∧ (∀ c ∈ (ds n).cps.toList, c ≠ 32 ∧ c < 256) := by decide +kernel
end OB
/-! repr of nested data of None, truths, ints, texts, lists and tuples: a bound of its length that is reckoned part by part. -/
namespace OB
open PySem PySem.Spec PyProof.Rows L2
mutual
/-- a bound for the length of the text -/
def sz : PyData → Nat
  | .none => 4
  | .bool _ => 5
  | .int _ => 1921
  | .str x => 10 * x.length + 2
  | .list xs => szAll xs + 2
  | .tuple xs => szAll xs + 2
  | .dict _ => 0
def szAll : List PyData → Nat
  | [] => 0
  | x :: xs => sz x + 2 + szAll xs
end
mutual
/-- ints that are not too great, texts of signs; no dict -/
def nice : PyData → Bool
  | .none | .bool _ => true
  | .int i => decide (i.natAbs.log2 < 1920)
  | .str x => x.cps.toList.all fun c => decide (c < 1114112)
  | .list xs | .tuple xs => niceAll xs
  | .dict _ => false
def niceAll : List PyData → Bool
  | [] => true
  | x :: xs => nice x && niceAll xs
end
mutual
theorem nice_show : ∀ d, nice d = true → d.showable = true
  | .none, _ => by simp [PyData.showable]
  | .bool _, _ => by simp [PyData.showable]
  | .int _, h => by simpa [nice, PyData.showable] using h
  | .str _, _ => by simp [PyData.showable]
  | .list xs, h => by
    have := niceAll_show xs (by simpa [nice] using h)
    simpa [PyData.showable] using this
  | .tuple xs, h => by
    have := niceAll_show xs (by simpa [nice] using h)
    simpa [PyData.showable] using this
  | .dict _, h => by simp [nice] at h
theorem niceAll_show : ∀ ds, niceAll ds = true → PyData.showableAll ds = true
  | [], _ => by simp [PyData.showableAll]
  | x :: xs, h => by
    have h : nice x = true ∧ niceAll xs = true := by simpa [niceAll] using h
    have h1 := nice_show x h.1
    have h2 := niceAll_show xs h.2
    simp [PyData.showableAll, h1, h2]
end
mutual
theorem shown_sz : ∀ d, nice d = true → d.shown.length ≤ sz d
  | .none, _ => by decide +kernel
  | .bool b, _ => by cases b <;> decide +kernel
  | .int i, h => int_text_len_1921 (by simpa [nice] using h)
  | .str x, h => PySem.StrLaws.reprText_len x fun c hc => by
    have h : (x.cps.toList.all fun c => decide (c < 1114112)) = true := h
    have := of_decide_eq_true (List.all_eq_true.mp h c hc)
    have : (1114112 : Nat) < 16 ^ 8 := by decide
    omega
  | .list xs, h => by
    have a := shownAll_sz xs (by simpa [nice] using h)
    have b := list_len (PyData.shownAll xs)
    show (listText (PyData.shownAll xs)).length ≤ szAll xs + 2
    omega
  | .tuple xs, h => by
    have a := shownAll_sz xs (by simpa [nice] using h)
    have b := fmt_text (PyData.shownAll xs)
    show (tupleText (PyData.shownAll xs)).length ≤ szAll xs + 2
    omega
  | .dict _, h => by simp [nice] at h
theorem shownAll_sz : ∀ ds, niceAll ds = true → piled (PyData.shownAll ds) ≤ szAll ds
  | [], _ => Nat.le_refl _
  | x :: xs, h => by
    have h : nice x = true ∧ niceAll xs = true := by simpa [niceAll] using h
    have h1 := shown_sz x h.1
    have h2 := shownAll_sz xs h.2
    show piled (x.shown :: PyData.shownAll xs) ≤ sz x + 2 + szAll xs
    rw [piled_cons]
    omega
end
theorem nice_ints : ∀ ns : List Int, (∀ n ∈ ns, n.natAbs.log2 < 1920) → niceAll (ns.map PyData.int) = true
  | [], _ => by simp [niceAll]
  | n :: r, h => by
    have h1 := h n List.mem_cons_self
    have h2 := nice_ints r fun x hx => h x (List.mem_cons_of_mem _ hx)
    simp [niceAll, nice, h1, h2]
theorem sz_ints : ∀ ns : List Int, szAll (ns.map PyData.int) = 1923 * ns.length
  | [] => rfl
  | n :: r => by
    have := sz_ints r
    show 1921 + 2 + szAll (r.map PyData.int) = _
    rw [List.length_cons]
    omega
section
variable {X : Cx}
/-- repr of nested data -/
def rReprN (K : PySem.W.Frag) : List V → Hp → VK → Prop := fun xs H Q => ∃ (a : Addr) (d : PyData), xs = [.ref a] ∧ Dp K H (.ref a) d ∧ nice d = true ∧ d.canLay0 = true ∧ d.depth ≤ 60 ∧ sz d ≤ 16000000 ∧ Q (.str d.shown) H
theorem call_reprN (hgd : X.A.guards = some []) (hu : X.A.units + 64 < cLine) : CallR X (.builtin "repr") (rReprN X.K) := by
  intro pins s σ H xs us Q I r h
  obtain ⟨a, d, rfl, hd, hn, hl, hdp, hz, q⟩ := h
  refine call_reprD hgd hu pins s σ H _ us Q I r ⟨a, d, rfl, hd, nice_show d hn, hl, hdp, ?_, q⟩
  have := shown_sz d hn
  rw [sizeLine_eq]
  omega
end
end OB
/-! sorted(set(x)) of a list or a tuple of ints, doubles among them. -/
namespace OB
open PySem PySem.Spec PyProof.Rows L2 SrtO Builtin
section
variable {P : Program} {w : World} {A : Around} {E : Value → Shared → Prop} {s : Shared}
abbrev setObj (w : World) : Obj := { cls := .type "set", dict := none, data := .set #[] 0 (.fresh 0 0 (!w.params.followText "set-order")) }
set_option maxHeartbeats 6400000 in
/-- set(x), x a list of ints -/
theorem set_of_list {l : Addr} {items : Array Value} (ns : List Int) {Q : Value → Shared → Prop} (hh : A.handled = none) (hl : s.heap.IsList l items) (hit : IntsAre items.toList ns) (hb : ns.length + 1 < scanBound)
    (h : ∀ (h' : Heap) (tk c : Nat), SetR w h' s.heap.objs.size (fun j => decide (j ∈ ns)) c → c ≤ ns.length → (∀ b o, s.heap.get? b = some o → h'.get? b = some o) → Q (.ref s.heap.objs.size) { s with heap := h', toks := tk }) :
    wpAny (model P w) A (call (.type "set") [.ref l]) Q E s := by
  have sz : items.size = ns.length := by
    have q := IntsAre.length hit
    rwa [Array.length_toList] at q
  obtain ⟨c, tl, hmro⟩ := F.called_set.mro
  have f1 := F.called_set.made
  have f2 := F.called_set.sub
  refine wpAny_call (codeAny_of_tree ?_)
  show wpAny _ _ (callAny (.type "set") _) _ _ _
  refine wpAny_pure ⟨Code.quiet_builtin _ (by decide +kernel), codeAny_builtin F.entry_type_call ?_⟩
  rw [Around.under_plain (weight_type_call_type "set" [.ref l] []) rfl]
  have f3 := F.called_set.notType
  have f4 := F.called_set.canCreate
  have f5 := F.typeCall_set_1 (.ref l)
  repeat (any_goals (first | assumption | wp_step))
  refine codeAny_mono (code_set_led1 (.ref l) (E := E) (Q₁ := fun z t => z = .ref s.heap.objs.size ∧ t = { s with heap := s.heap.push (setObj w) }) ⟨rfl, rfl⟩) fun r s₁ hr => ?_
  cases r with
  | error e => exact hr
  | ok fl =>
    cases fl with
    | ret obj =>
      obtain ⟨rfl, rfl⟩ := hr
      have hS : (s.heap.push (setObj w)).get? s.heap.objs.size = some (setObj w) := Heap.get?_push_size _ rfl
      have hT : Shared.TypeIs { s with heap := s.heap.push (setObj w) } (.ref s.heap.objs.size) "set" := ⟨_, hS, rfl⟩
      have f6 := F.called_set.init.lookup
      have f7 := F.called_set.init.bind (.ref s.heap.objs.size)
      repeat (any_goals (first | assumption | wp_step))
      refine codeAny_mono (codeAny_call_builtin (R := wants (fun r t => r = .none ∧ ∃ h' tk c, t = { s with heap := h', toks := tk } ∧ SetR w h' s.heap.objs.size (fun j => decide (j ∈ ns)) c ∧ c ≤ ns.length ∧
          (∀ b o, s.heap.get? b = some o → h'.get? b = some o)) E) F.called_set.init.plain F.entry_set_init (check_set_init_1 hT ?_)) fun r₂ s₂ hr₂ => ?_
      · have hlt : l < s.heap.objs.size := by
          obtain ⟨o, e, _⟩ := hl
          exact Heap.lt_size e
        have hl1 : (s.heap.push (setObj w)).IsList l items := hl.push _
        have n1 := F.sub_list_set
        have n2 := F.sub_list_frozenset
        have n3 : (Value.type "list" == Value.type "dict") = false := by decide
        obtain ⟨ol, e0, cl, nl, dl⟩ := id hl1
        unfold Builtin.«set.__init__» noKeywords Builtin.Frozenset.updateFrom
        generalize hPI : pyIter = PI
        obtain ⟨oc, od, dt, os⟩ := ol
        simp only at cl dl
        subst cl dl
        wp_walk
        subst hPI
        refine wpAny_pyIter_list hl1 ?_
        refine wpAny_bind (wpAny_runValue ?_)
        have ne : l ≠ (s.heap.push (setObj w)).objs.size := by
          rw [Heap.size_push]
          exact Nat.ne_of_lt (Nat.lt_succ_of_lt hlt)
        have hSf : s.heap.objs.size ∉ [(s.heap.push (setObj w)).objs.size, l] := by
          rw [Heap.size_push]
          simp only [List.mem_cons, List.mem_singleton, List.not_mem_nil, or_false, not_or]
          exact ⟨Nat.ne_of_lt (Nat.lt_succ_self _), Nat.ne_of_gt hlt⟩
        have hval : ∀ (i : Nat) (v : Value), items[i]? = some v → ∃ k t, ns[i]? = some k ∧ v = .int k t := fun i v hv => by
          have hi : i < ns.length := by
            rw [← sz]
            exact (Array.getElem?_eq_some_iff.mp hv).1
          obtain ⟨t, e⟩ := PyProof.Rows.IntsAre.int_at hit i v (by rw [Array.getElem?_toList]; exact hv)
          refine ⟨ns[i], t, List.getElem?_eq_getElem hi, ?_⟩
          rw [e, List.getD_eq_getElem?_getD, List.getElem?_eq_getElem hi] <;> rfl
        have h3 : A.in1.in1.in1.handled = none := by simp [hh]
        refine set_update_ints ((Walks.list h3 _ l ne items).toS) s.heap.objs.size hSf ns sz hb hval (items.size - 0) 0 _ (by omega) (Nat.zero_le _) ⟨⟨_, Heap.get?_push_size _ rfl, rfl, rfl⟩, (hl1.push _)⟩ ⟨0, Nat.le_refl 0, setR_new_at (Heap.get?_push_of_some _ hS)⟩ ?_
        intro t c' hm hc' hS'
        obtain ⟨h', g2, d', tk', os'⟩ := t
        have eg : g2 = s.gens := hm.gens
        have ed : d' = s.drawn := hm.drawn
        have eo : os' = s.os := hm.os
        subst eg ed eo
        rw [sz] at hc'
        refine wpAny_pure (wpAny_pure ⟨rfl, h', tk', c', rfl, hS', hc', fun b o e => ?_⟩)
        have b0 : b < s.heap.objs.size := Heap.lt_size e
        refine hm.heap b o ?_ (Heap.get?_push_of_some _ (Heap.get?_push_of_some _ e))
        rw [Heap.size_push]
        simp only [List.mem_cons, List.mem_singleton, List.not_mem_nil, or_false, not_or]
        exact ⟨Nat.ne_of_lt b0, Nat.ne_of_lt (Nat.lt_succ_of_lt b0)⟩
      · cases r₂ with
        | error e => exact hr₂
        | ok fl₂ =>
          cases fl₂ with
          | ret r =>
            obtain ⟨rfl, h', tk, c', rfl, k1, k2, k3⟩ := hr₂
            repeat (any_goals (first | assumption | wp_step))
            exact h _ _ _ k1 k2 k3
          | _ => exact hr₂.elim
    | _ => exact hr.elim
/-- sorted(x), x a set of ints -/
theorem sorted_of_set {a : Addr} {S : Int → Bool} {n : Nat} {Q : Value → Shared → Prop} (R : SetR w s.heap a S n) (hh : A.handled = none)
    (hQ : ∀ s' p (out : Array Value) (c : Nat) (ns : List Int), (∀ b o, s.heap.get? b = some o → s'.heap.get? b = some o) → s'.gens = s.gens → s'.os = s.os → s.heap.objs.size ≤ p →
      s'.heap.get? p = some (seqObj "list" out c) → IntsAre out.toList ns → ns.Pairwise (· < ·) → (∀ k, k ∈ ns ↔ S k = true) → ns.length ≤ sizeLine → Q (.ref p) s') :
    wpAny (model P w) A (call (.builtin "sorted") [.ref a]) Q E s := by
  obtain ⟨o, es, ep, t, ho, hex, hd, g, nd, hm, hb, hf, hn, hr, hl⟩ := R
  refine Calls.call_function_entry kind_sorted plain_sorted entry_sorted (args_sorted1 _) ?_
  unfold Builtin.«sorted»
  refine wpAny_bind (m := checkCount "sorted" 1 1 _) (wpAny_pure ?_)
  refine wpAny_bind (collect_set (A := A.in1) hh ⟨o, ho, hex.1, hd⟩ hf hb hr hl fun s1 vs k1 hz g1 o1 pm => ?_)
  have vl : vs.length = n := by rw [pm.length_eq, List.length_map, Array.length_toList]; exact hn
  have sl : vs.length ≤ sizeLine := by
    rw [vl, ← hn]
    have : scanBound ≤ sizeLine := by decide +kernel
    omega
  have hI : IntsAre vs (vs.map Builtin.Re.reRawOf) := ints_of vs fun v hv => by
    obtain ⟨e, he, q⟩ := List.mem_map.mp (pm.mem_iff.mp hv)
    obtain ⟨k, tk, h1, _⟩ := g e he
    exact ⟨k, tk, by rw [← q]; exact h1⟩
  have pk : (vs.map Builtin.Re.reRawOf).Perm (es.toList.map keyOf) := by
    have q := pm.map Builtin.Re.reRawOf
    rwa [List.map_map] at q
  refine wpAny_bind (wpAny_newList ?_ sl)
  have hoL : (s1.heap.push (seqObj "list" vs.toArray 0)).get? s1.heap.objs.size = some (seqObj "list" vs.toArray 0) := Heap.get?_push_size _ rfl
  refine wpAny_bind (wpAny_holding (wpAny_call_entry slot_list_sort ⟨_, hoL, rfl⟩ entry_list_sort (list_sort_ord swo_int hoL sl (fun h2 => ints_sortable hI h2) fun out a1 a2 => ⟨_, rfl, ?_⟩) (args_list_sort _)))
  obtain ⟨i1, i2, i3⟩ := ints_out hI a1 a2
  obtain ⟨c, hc⟩ := sortedHeap_at (vs := vs) (out := out.toArray) hoL
  have pn : (out.map iv).Perm (es.toList.map keyOf) := i2.trans pk
  refine wpAny_pure ⟨_, rfl, hQ _ s1.heap.objs.size out.toArray c (out.map iv) (fun b u e => ?_) g1 o1 hz hc (by simpa using i1) (lt_of_le_nodup _ i3 (pn.nodup_iff.mpr nd)) (fun k => by rw [pn.mem_iff, ← hm k]) ?_⟩
  · have q := k1 b u e
    have hlt := Heap.lt_size q
    show (sortedHeap (s1.heap.push (seqObj "list" vs.toArray 0)) s1.heap.objs.size vs out.toArray).get? b = some u
    rw [sortedHeap_old (Nat.ne_of_lt hlt) (by rw [size_push']; exact Nat.lt_succ_of_lt hlt)]
    exact Heap.get?_push_of_some _ q
  · rw [i2.length_eq, List.length_map]
    exact sl
end
theorem sorted_set_ep {X : Cx} {pins : List (Addr × Obj)} {σ : L2.St} {H : Hp} {s : Shared} {a : Addr} {S : Int → Bool} {n : Nat} {Q : VK} (hc : X.calm = true) (I : Inv X pins σ H s) (R : SetR X.w s.heap a S n)
    (h : ∀ (ms : List Int) (q : Addr), ms.Pairwise (· < ·) → (∀ k, k ∈ ms ↔ S k = true) → H q = none → Q (.ref q) (upd H q (.lst (ms.map V.int)))) : wpAny (model X.prog X.w) X.A (call (.builtin "sorted") [.ref a]) (EP X pins σ Q) X.xe s := by
  refine sorted_of_set R (I.ok.hd hc) fun s' p out c ms k2 g o hp hg hi hs hm hl2 => ?_
  have hz : (ms.map V.int).length ≤ sizeLine := by rw [List.length_map]; exact hl2
  have hn : H p = none := I.hok.fresh hp
  have J : Inv X pins σ (upd H p (.lst (ms.map V.int))) { s with heap := s'.heap, gens := s'.gens, drawn := s'.drawn, toks := s'.toks } :=
    I.call (ch := []) (Un.laid k2 hp hn) (I.hok.laid k2 hp ⟨hz, out.toList, c, vals_of_ints hi, hg⟩) (by rw [g]; exact I.bare) (fun _ z => nomatch z)
  have e : s' = { s with heap := s'.heap, gens := s'.gens, drawn := s'.drawn, toks := s'.toks } := by
    cases s'
    cases s
    cases o
    rfl
  rw [e]
  exact ⟨.ref p, _, J, rfl, h ms p hs hm hn⟩
/-- the unlike ints of x, ascending -/
def tSortedSet (K : PySem.W.Frag) (ta : TE) : TE := fun σ H Q => ta σ H fun x H1 => ∃ (p : Addr) (ns : List Int), x = .ref p ∧ (SqL K H1 p (ns.map V.int) ∨ SqT K H1 p (ns.map V.int)) ∧ ns.length ≤ 2000 ∧
  ∀ (ms : List Int) (q : Addr), ms.Pairwise (· < ·) → (∀ k, k ∈ ms ↔ k ∈ ns) → H1 q = none → Q (.ref q) (upd H1 q (.lst (ms.map V.int)))
theorem pe_sortedSet {X : Cx} {a : Expr} {ta : TE} {p p2 q pos : Pos} (hg : Gl X "sorted") (hm : X.mg "sorted" = none) (hg2 : Gl X "set") (hm2 : X.mg "set" = none) (ha : PE X a ta) (hc : X.calm = true := by rfl)
    (na : starEach [a] X.env = (false, eval a X.env) :: starEach [] X.env := by rfl) : PE X (.Call (.Name "sorted" p) [.Call (.Name "set" p2) [a] [] q] [] pos) (tSortedSet X.K ta) := by
  refine ⟨fun pins s σ H Q I h => ?_⟩
  refine Call_ (ld_blt I hg hm boot_sorted ?_)
  refine PyProof.Rows.callWith_builtin1 (PyProof.Rows.args_cons ?_ rfl) rfl rfl
  refine Call_ (ld_blt I hg2 hm2 boot_set ?_)
  refine PyProof.Rows.callWith_type1 (PyProof.Rows.args_cons (thn (ha.run pins s σ H _ I h) fun v s1 ⟨x, H1, I1, r1, q1⟩ => PyProof.Rows.args_nil ?_) na) na rfl
  obtain ⟨l, ns, rfl, hq, hl, q1⟩ := q1
  cases r1
  have fin : ∀ (h' : Heap) (tk c : Nat), SetR X.w h' s1.heap.objs.size (fun j => decide (j ∈ ns)) c → (∀ b o, s1.heap.get? b = some o → h'.get? b = some o) →
      wpAny (model X.prog X.w) X.A (call (.builtin "sorted") [.ref s1.heap.objs.size]) (EP X pins σ Q) X.xe { s1 with heap := h', toks := tk } := by
    intro h' tk c R k
    have I2 : Inv X pins σ H1 { s1 with heap := h', toks := tk } := I1.kept fun b o e => k b o e
    exact sorted_set_ep hc I2 R fun ms q hs hm hn => q1 ms q hs (fun k => by rw [hm k, decide_eq_true_eq]) hn
  rcases hq with hq | hq
  · obtain ⟨its, r, pl, hz⟩ := I1.list hq
    exact set_of_list ns (I1.ok.hd hc) pl.isList (by simpa using ints_of_vals r) (by unfold scanBound; omega) fun h' tk c R1 hcn k => PyProof.Rows.args_nil (fin h' tk c R1 k)
  · obtain ⟨its, r, pt, hz⟩ := I1.tuple hq
    exact call_set_tupI ns (I1.ok.hd hc) (show s1.heap.IsTuple l its.toArray from pt) (ints_of_vals r) (by unfold scanBound; omega) fun h' tk c R1 hcn k => PyProof.Rows.args_nil (fin h' tk c R1 k)
end OB
namespace K12
open PySem PySem.Spec PyProof.Rows L2 OB SkE
def top (i : Nat) : Stmt := PySem.Challenge.pw_oneflip_k12_texts_of_layouts_bent.main.body.getD i (.Pass ⟨0, 0, 0, 0⟩)
abbrev s_init_BadLayout : Stmt := inClass (top 2) 0
abbrev s_init_BadText : Stmt := inClass (top 3) 0
abbrev s_is_integer : Stmt := top 5
abbrev s_is_within : Stmt := top 6
abbrev s_is_list : Stmt := top 7
abbrev s_items_of : Stmt := top 10
abbrev s_integer_of : Stmt := top 11
abbrev s_item_at : Stmt := top 12
abbrev s_integer_at : Stmt := top 13
abbrev s_need_end : Stmt := top 14
abbrev s_Layout_init : Stmt := inClass (top 19) 0
abbrev s_Layout_eq : Stmt := inClass (top 19) 1
abbrev s_Layout_str : Stmt := inClass (top 19) 2
abbrev s_Layout_read : Stmt := inClass (top 19) 3
abbrev s__is_meaning : Stmt := top 20
abbrev s__meaning_at : Stmt := top 21
abbrev s__law_mill : Stmt := top 23
abbrev s__law_grind : Stmt := top 24
abbrev s__law_one_of : Stmt := top 25
abbrev s__law_integer : Stmt := top 26
abbrev s__law_within : Stmt := top 27
abbrev s__law_stop : Stmt := top 28
abbrev s__law_heard : Stmt := top 29
abbrev s__law_bent : Stmt := top 30
abbrev s_law : Stmt := top 31
theorem sc_init_BadLayout : FnScope ["self", "part"] ["self", "part"] (defScope s_init_BadLayout) := ⟨rfl, rfl, rfl, by decide +kernel, rfl, by decide +kernel, by decide +kernel⟩
theorem sc_init_BadText : FnScope ["self", "line", "item"] ["self", "line", "item"] (defScope s_init_BadText) := ⟨rfl, rfl, rfl, by decide +kernel, rfl, by decide +kernel, by decide +kernel⟩
/-- what the module leaves as it is, and its own constants -/
structure Blt (mg : Str → Option Value) : Prop where
  g_MOST_DIGITS : ∃ t, mg "MOST_DIGITS" = some (.int 140 t)
  g_MOST_BITS : ∃ t, mg "MOST_BITS" = some (.int 8 t)
  g_MOST_STATE : ∃ t, mg "MOST_STATE" = some (.int 63 t)
  g_NOTHING : ∃ t, mg "NOTHING" = some (.str "-" t)
  n_abs : mg "abs" = none
  n_all : mg "all" = none
  n_bool : mg "bool" = none
  n_int : mg "int" = none
  n_isinstance : mg "isinstance" = none
  n_len : mg "len" = none
  n_list : mg "list" = none
  n_min : mg "min" = none
  n_range : mg "range" = none
  n_str : mg "str" = none
  n_tuple : mg "tuple" = none
section
variable {P : Program} {w : World} {K : PySem.W.Frag} {mg : Str → Option Value} {base : Heap}
/-! ### checks -/
theorem sc_is_integer : FnScope ["value"] ["value"] (defScope s_is_integer) := ⟨rfl, rfl, rfl, by decide +kernel, rfl, by decide +kernel, by decide +kernel⟩
theorem ok_is_integer {f : Addr} {fd : FuncData} (F : Fun K "is_integer" "is_integer" s_is_integer f fd) (T : Blt mg) : FnOk P w K mg base CX0 1 f fd ["value"] (spIsInt K) := by
  refine F.ok sc_is_integer (fun vs H Q E h => ?_) (fun cdv A outer s H vs Q E hr h => ?_)
  · obtain ⟨x, b, rfl, _⟩ := h
    rfl
  · obtain ⟨x, b, rfl, ⟨n, b1, b2, ty, e1, e2, e3⟩, k⟩ := h
    refine ⟨_, (pss_one (ps_ret (pe_and (pe_callB call_isi (by rfl) T.n_isinstance (by decide +kernel) (pa_cons (pv 0) (pa_cons (pe_bltn (v := .ty "int") (by rfl) T.n_int (by decide +kernel) rfl) pa_nil))) (pe_one (pe_not (pe_callB call_isi (by rfl) T.n_isinstance (by decide +kernel) (pa_cons (pv 0) (pa_cons (pe_bltn (v := .ty "bool") (by rfl) T.n_bool (by decide +kernel) rfl) pa_nil)))))))), ?_⟩
    refine ⟨x, rfl, x, .ty "int", .type n, .type "int", b1, rfl, .ty _, ty, kit_ty e1, b1, rfl, ?_⟩
    refine iteB (fun c => ?_) (fun c => ?_)
    · refine ⟨x, rfl, x, .ty "bool", .type n, .type "bool", b2, rfl, .ty _, ty, kit_ty e2, b2, rfl, ?_⟩
      rw [c] at e3
      rw [show (!b2) = b by rw [e3, Bool.true_and]]
      exact k
    · rw [c] at e3
      rw [show false = b by rw [e3, Bool.false_and]]
      exact k
theorem sc_is_within : FnScope ["value", "least", "most"] ["value", "least", "most"] (defScope s_is_within) := ⟨rfl, rfl, rfl, by decide +kernel, rfl, by decide +kernel, by decide +kernel⟩
theorem within_end {lo hi : Option Int} {x : V} {b : Bool} {Q : VK} {H : Hp} (hI : IsI K H x b) (k : Q (.bl (b && inB lo hi x)) H) (hb : b = true) : ∃ i, x = .int i ∧ Q (.bl (loOk lo i && hiOk hi i)) H := by
  subst hb
  obtain ⟨i, rfl⟩ := isI_true hI
  exact ⟨i, rfl, k⟩
theorem ok_is_within {f f1 : Addr} {fd fd1 : FuncData} (F : Fun K "is_within" "is_within" s_is_within f fd) (D_is_integer : Df K mg "is_integer" s_is_integer ["value"] f1 fd1) (T : Blt mg) : FnOk P w K mg base CX0 2 f fd ["value", "least", "most"] (spWithin K) := by
  have G_is_integer : FnOk P w K mg base CX0 1 f1 fd1 ["value"] (spIsInt K) := ok_is_integer D_is_integer.F T
  refine F.ok sc_is_within (fun vs H Q E h => ?_) (fun cdv A outer s H vs Q E hr h => ?_)
  · obtain ⟨x, lo, hi, b, rfl, _⟩ := h
    rfl
  · obtain ⟨x, lo, hi, b, rfl, hI, k⟩ := h
    refine ⟨_, (pss_cons (ps_if (pt_not (pt_val (pe_call G_is_integer (hr.mono (by decide)) (by rfl) D_is_integer.g D_is_integer.F.kp D_is_integer.b .nil pass0 (pa_cons (pv 0) pa_nil)))) (pss_one (ps_ret pe_bl)) pss_nil)
  (pss_one (ps_ret (pe_and (pe_or (pe_cmpR op_isN (pv 1) pe_non (nomark _)) (pe_one (pe_cmpR op_le (pv 1) (pv 0) (nomark _)))) (pe_one (pe_or (pe_cmpR op_isN (pv 2) pe_non (nomark _)) (pe_one (pe_cmpR op_le (pv 0) (pv 2) (nomark _))))))))), ?_⟩
    refine ⟨x, rfl, x, b, rfl, hI, b, rfl, ?_⟩
    cases b with
    | false => exact iteT k
    | true =>
      obtain ⟨i, rfl, k'⟩ := within_end hI k rfl
      clear k
      have k := k'
      clear k'
      refine iteF ?_
      refine ⟨_, rfl, rfl, _, rfl, ?_⟩
      cases lo with
      | none =>
        refine iteT ?_
        refine ⟨_, rfl, iteT ?_⟩
        refine ⟨_, rfl, rfl, _, rfl, ?_⟩
        cases hi with
        | none => exact iteT k
        | some h => exact iteF ⟨_, rfl, _, rfl, _, _, rfl, rfl, k⟩
      | some l =>
        refine iteF ?_
        refine ⟨_, rfl, _, rfl, _, _, rfl, rfl, _, rfl, ?_⟩
        refine iteB (fun c => ?_) (fun c => ?_)
        · refine ⟨_, rfl, rfl, _, rfl, ?_⟩
          have e : loOk (some l) i = true := c
          rw [e, Bool.true_and] at k
          cases hi with
          | none => exact iteT k
          | some h => exact iteF ⟨_, rfl, _, rfl, _, _, rfl, rfl, k⟩
        · have e : loOk (some l) i = false := c
          rw [e, Bool.false_and] at k
          exact k
end
end K12
namespace K12
open PySem PySem.Spec PyProof.Rows L2 OB SkE
section
variable {P : Program} {w : World} {K : PySem.W.Frag} {mg : Str → Option Value} {base : Heap}
theorem cut60 (ns : List Int) : cutV (ns.map V.int) none (some 60) = (ns.take 60).map V.int := by
  unfold cutV
  have a : HT.sIx (ns.map V.int).length 0 none = 0 := rfl
  rw [a, List.drop_zero, Nat.sub_zero, List.map_take]
  have e : HT.sIx (ns.map V.int).length (ns.map V.int).length (some 60) = min 60 (ns.map V.int).length := HT.sIx_nat _ _ 60
  rw [e]
  by_cases h : (ns.map V.int).length ≤ 60
  · rw [Nat.min_eq_right h, List.take_length, List.take_of_length_le h]
  · rw [Nat.min_eq_left (by omega)]
theorem take_more {α : Type} {l : List α} {i : Nat} {x : α} (h : l[i]? = some x) : l.take (i + 1) = l.take i ++ [x] := by
  rw [List.take_add_one, h]
  rfl
theorem sc__law_mill : FnScope ["script", "cell"] ["script"] (defScope s__law_mill) := ⟨rfl, rfl, rfl, by decide +kernel, rfl, by decide +kernel, by decide +kernel⟩
abbrev N__law_mill : List Str := ["script", "cell"]
theorem ok__law_mill {f : Addr} {fd : FuncData} (F : Fun K "_law_mill" "_law_mill" s__law_mill f fd) (T : Blt mg) : FnOk P w K mg base CX0 1 f fd ["script"] (spLot K) := by
  refine F.ok sc__law_mill (fun vs H Q E h => ?_) (fun cdv A outer s H vs Q E hr h => ?_)
  · obtain ⟨a, ns, rfl, _⟩ := h
    rfl
  · obtain ⟨a, ns, rfl, hS, hl, k⟩ := h
    refine ⟨_, (pss_one (ps_ret (pe_lst (pa_cons (pe_lc (own := [("cell", 1)]) (g := (gName 1)) (tt := tYes) rfl sc__law_mill.nd (pi_list (pe_slice sl_list (pv 0) po_none (po_some pe_int))) (blkOk_by (N := N__law_mill) (own := [("cell", 1)]) (sc := defScope s__law_mill) (by decide +kernel)) (fun _ _ _ _ _ => (pg_name (i := 1) sc__law_mill.nd rfl (Or.inl rfl))) (fun _ _ _ _ _ => pts_nil) (fun _ _ _ _ _ => (pe_callTy call_int1 (by rfl) T.n_int (by decide +kernel) (pa_cons (pv 1) pa_nil)))) (pa_cons pe_int (pa_cons pe_int pa_nil)))))), ?_⟩
    refine ⟨_, rfl, _, rfl, a, _, rfl, hS, fun c hc => ?_⟩
    have e1 : cutV (ns.map V.int) none (some 60) = (ns.take 60).map V.int := cut60 ns
    rw [e1]
    have S0 : Same H (upd H c (.lst ((ns.take 60).map V.int))) := same_new hc
    refine ⟨c, rfl, ⟨_, .inl (.inl upd_same)⟩, fun b hb => ?_⟩
    have ncb : c ≠ b := ne_of_none upd_same hb
    refine lc_list (K := K) (a := c) (xs := (ns.take 60).map V.int) (fun i H' => Same (upd H c (.lst ((ns.take 60).map V.int))) H' ∧ H' b = some (.lst (((ns.take 60).map V.int).take i)))
      ⟨same_new hb, upd_same⟩ (fun i H' _ h => h.1.seq (.inl (.inl upd_same))) ?_ ?_
    · rintro i y H' hy ⟨S1, h1⟩
      obtain ⟨z, hz, rfl⟩ : ∃ z, (ns.take 60)[i]? = some z ∧ y = V.int z := by
        rw [List.getElem?_map] at hy
        cases e : (ns.take 60)[i]? with
        | none => rw [e] at hy; cases hy
        | some z => rw [e] at hy; exact ⟨z, rfl, (Option.some.inj hy).symm⟩
      refine ⟨rfl, _, rfl, .inl ⟨_, rfl, _, h1, ?_, ?_, ?_⟩⟩
      · refine small1000 ?_
        rw [List.length_take, List.length_map, List.length_take]
        omega
      · intro q o e
        have nb : q ≠ b := ne_of_none e hb
        rw [upd_ne nb]
        exact S1 q o e
      · rw [upd_same, ← List.map_take, ← List.map_take, take_more hz, List.map_append]
        rfl
    · rintro H' ⟨S1, h1⟩
      rw [List.take_length] at h1
      refine ⟨(by show 3 ≤ sizeLine; decide), fun p hp => ?_⟩
      have S2 : Same H H' := S0.trans S1
      have hb0 : H b = none := S0.free hb
      refine k p b _ (S2.free hp) hb0 ⟨ns.take 60, 0, 0, upd_same, ?_, Int.le_refl _, Int.le_refl _⟩ (S2.trans (same_new hp))
      rw [upd_ne (ne_of_none h1 hp)]
      exact h1
theorem sc__law_grind : FnScope ["mill", "many", "grain", "lap", "cell", "flour"] ["mill", "many"] (defScope s__law_grind) := ⟨rfl, rfl, rfl, by decide +kernel, rfl, by decide +kernel, by decide +kernel⟩
theorem ok__law_grind {f : Addr} {fd : FuncData} (F : Fun K "_law_grind" "_law_grind" s__law_grind f fd) (T : Blt mg) : FnOk P w K mg base CX0 1 f fd ["mill", "many"] spDraw := by
  refine F.ok sc__law_grind (fun vs H Q E h => ?_) (fun cdv A outer s H vs Q E hr h => ?_)
  · obtain ⟨p, b, n, many, rfl, _⟩ := h
    rfl
  · obtain ⟨p, b, n, many, rfl, O, hn, hm, hm2, k⟩ := h
    obtain ⟨ns, t, l, hp, hb, ht, htn⟩ := id O
    have npb : p ≠ b := O.ne
    refine ⟨_, (pss_cons (ps_if (pt_cmpR op_gt (pe_ix ix_list (pv 0) pe_int (fun _ _ => rfl)) pe_int (nomark _)) (pss_cons (ps_set (i := 2) sc__law_grind.nd rfl (Or.inl rfl) (pe_callTy call_int1 (by rfl) T.n_int (by decide +kernel) (pa_cons (pe_ix ix_list (pv 0) pe_int (fun _ _ => rfl)) pa_nil)))
  (pss_cons (ps_asg (pe_op op_fdivW (pv 2) (pv 1)) (pg_sub (pv 0) pe_int set_list))
  (pss_one (ps_ret (pe_op op_mod (pe_callTy call_int1 (by rfl) T.n_int (by decide +kernel) (pa_cons (pv 2) pa_nil)) (pv 1)))))) pss_nil)
  (pss_cons (ps_set (i := 3) sc__law_grind.nd rfl (Or.inl rfl) (pe_ix ix_list (pv 0) pe_int (fun _ _ => rfl)))
  (pss_cons (ps_asg (pe_op op_add (pv 3) pe_int) (pg_sub (pv 0) pe_int set_list))
  (pss_cons (ps_set (i := 4) sc__law_grind.nd rfl (Or.inl rfl) (pe_op op_add (pe_op op_mul pe_int (pv 3)) pe_int))
  (C8.pss_cut (ps_if (pt_cmpR (op_neD hr.units) (pe_ix ix_list (pv 0) pe_int (fun _ _ => rfl)) (pe_lst pa_nil) (nomark _)) (pss_one (ps_set (i := 4) sc__law_grind.nd rfl (Or.inl rfl) (pe_ix ix_list (pe_ix ix_list (pv 0) pe_int (fun _ _ => rfl)) (pe_op op_mod (pe_callTy call_int1 (by rfl) T.n_int (by decide +kernel) (pa_cons (pv 3) pa_nil)) (pe_callB call_len_seq (by rfl) T.n_len (by decide +kernel) (pa_cons (pe_ix ix_list (pv 0) pe_int (fun _ _ => rfl)) pa_nil))) (fun _ _ => rfl)))) pss_nil)
  (pss_cons (ps_if (PW.pt (pw_and (pt_cmpR op_lt (pv 3) (pe_callB call_len_seq (by rfl) T.n_len (by decide +kernel) (pa_cons (pe_ix ix_list (pv 0) pe_int (fun _ _ => rfl)) pa_nil)) (nomark _)) (pw_and1 (pt_cmpR op_ge (pe_callB call_abs (by rfl) T.n_abs (by decide +kernel) (pa_cons (pv 4) pa_nil)) (pe_op op_pow pe_int pe_int) (nomark _))))) (pss_cons (ps_set (i := 2) sc__law_grind.nd rfl (Or.inl rfl) (pe_op op_add (pe_op op_mul pe_int (pe_op op_sub (pe_callB call_abs (by rfl) T.n_abs (by decide +kernel) (pa_cons (pv 4) pa_nil)) (pe_op op_pow pe_int pe_int))) (pe_callTy call_int1 (by rfl) T.n_int (by decide +kernel) (pa_cons (pe_cmpR op_lt (pv 4) pe_int (nomark _)) pa_nil))))
  (pss_cons (ps_asg (pe_op op_fdivW (pv 2) (pv 1)) (pg_sub (pv 0) pe_int set_list))
  (pss_one (ps_ret (pe_op op_mod (pe_callTy call_int1 (by rfl) T.n_int (by decide +kernel) (pa_cons (pv 2) pa_nil)) (pv 1)))))) pss_nil)
  (pss_cons (ps_set (i := 5) sc__law_grind.nd rfl (Or.inl rfl) (pe_op op_mod (pe_callTy call_int1 (by rfl) T.n_int (by decide +kernel) (pa_cons (pe_op op_pow (pe_op op_add (pe_op op_add (pe_op op_mod (pe_callTy call_int1 (by rfl) T.n_int (by decide +kernel) (pa_cons (pv 4) pa_nil)) pe_int) (pe_op op_mul pe_int (pv 3))) pe_int) pe_int) pa_nil)) pe_int))
  (pss_cons (ps_set (i := 5) sc__law_grind.nd rfl (Or.inl rfl) (pe_op op_mod (pe_callTy call_int1 (by rfl) T.n_int (by decide +kernel) (pa_cons (pe_op op_pow (pe_op op_add (pe_op op_add (pe_op op_mul (pv 5) (pe_op op_add (pe_op op_mul pe_int (pv 3)) pe_int)) (pe_op op_mul (pe_op op_mul pe_int (pv 3)) (pv 3))) pe_int) pe_int) pa_nil)) pe_int))
  (pss_one (ps_ret (pe_op op_mod (pe_callTy call_int1 (by rfl) T.n_int (by decide +kernel) (pa_cons (pe_op op_fdiv (pv 5) pe_int) pa_nil)) (pv 1)))))))))))), ?_⟩
    -- quay[2] > 0
    refine ⟨_, rfl, p, _, _, _, rfl, rfl, SqL.of hp, rfl, _, _, rfl, rfl, _, rfl, ?_⟩
    refine ite2 (fun c => ?_) (fun c => ?_)
    · -- left = int(quay[2]); quay[2] = left // many; return int(left) % many
      refine ⟨_, rfl, p, _, _, _, rfl, rfl, SqL.of hp, rfl, .inl ⟨_, rfl, ?_⟩⟩
      refine ⟨_, rfl, _, rfl, _, _, rfl, rfl, wide_div hm hm2 (by decide) (by decide), _, rfl, p, _, _, _, rfl, rfl, hp, rfl, ?_⟩
      refine ⟨_, rfl, .inl ⟨_, rfl, _, rfl, _, _, rfl, rfl, hm, ?_⟩⟩
      refine k _ _ (Int.emod_nonneg _ (by omega)) (Int.emod_lt_of_pos _ hm) ⟨ns, t, _, upd_same, ?_, ht, by omega⟩ but_at
      rw [upd_ne npb.symm]
      exact hb
    · -- turn = quay[1]; quay[1] = turn + 1; cell = A * turn + B
      refine ⟨_, rfl, p, _, _, _, rfl, rfl, SqL.of hp, rfl, ?_⟩
      refine ⟨_, rfl, _, _, rfl, rfl, _, rfl, p, _, _, _, rfl, rfl, hp, rfl, ?_⟩
      refine ⟨_, rfl, _, _, rfl, rfl, .inl ⟨by decide, by decide⟩, _, _, rfl, rfl, ?_⟩
      -- quay[0] != []
      refine ⟨fun σ' H' => ∃ c0 : Int, σ' = [some (.ref p), some (.int many), none, some (.int t), some (.int c0), none] ∧ H' p = some (.lst [.ref b, .int (t + 1), .int l]) ∧ H' b = some (.lst (ns.map V.int)) ∧ But p H H', ?_, ?_⟩
      rotate_left
      · rintro σ' H' ⟨c0, rfl, hp2, hb2, S2⟩
        have ht2 : t ≤ 1000000 := by omega
        have fin : ∀ r : Int, 0 ≤ r → r < many → Q (.int r) H' := fun r h1 h2 => k r H' h1 h2 ⟨ns, t + 1, l, hp2, hb2, by omega, by omega⟩ S2
        have end_ : ∀ x : Int, Q (.int (x % many)) H' := fun x => fin _ (Int.emod_nonneg _ (by omega)) (Int.emod_lt_of_pos _ hm)
        refine ⟨_, rfl, _, rfl, p, _, _, _, rfl, rfl, SqL.of hp2, rfl, b, _, rfl, .inl (SqL.of hb2), _, _, rfl, rfl, _, rfl, ?_⟩
        refine ite2 (fun c1 => ?_) (fun c1 => ?_)
        · refine ⟨_, rfl, _, rfl, _, _, rfl, rfl, ⟨by decide, by decide, by decide⟩, _, _, rfl, rfl, _, rfl, ?_⟩
          refine ite2 (fun c2 => ?_) (fun c2 => ?_)
          · refine ⟨_, rfl, _, rfl, _, _, rfl, rfl, ⟨by decide, by decide, by decide⟩, _, _, rfl, rfl, _, _, rfl, rfl, .inl ⟨by decide, by decide⟩, ?_⟩
            refine ⟨_, rfl, _, _, rfl, rfl, .inr ⟨_, rfl, _, _, rfl, rfl, ?_⟩⟩
            refine ⟨_, rfl, _, rfl, _, _, rfl, rfl, wide_div hm hm2 (by decide) (by decide), _, rfl, p, _, _, _, rfl, rfl, hp2, rfl, ?_⟩
            refine ⟨_, rfl, .inl ⟨_, rfl, _, rfl, _, _, rfl, rfl, hm, ?_⟩⟩
            refine k _ _ (Int.emod_nonneg _ (by omega)) (Int.emod_lt_of_pos _ hm) ⟨ns, t + 1, _, upd_same, ?_, by omega, by omega⟩ (S2.trans but_at)
            rw [upd_ne npb.symm]
            exact hb2
          · refine ⟨_, rfl, .inl ⟨_, rfl, _, _, rfl, rfl, (by show (0 : Int) < _; decide), _, rfl, _, _, rfl, rfl, .inl ⟨by decide, by decide⟩, _, _, rfl, rfl, _, _, rfl, rfl, _, _, rfl, rfl, ⟨by decide, by decide, mix1 (by decide) (by decide) ht ht2 (by decide) (by decide) (by decide) (by decide)⟩, .inl ⟨_, rfl, _, _, rfl, rfl, (by show (0 : Int) < _; decide), ?_⟩⟩⟩
            refine ⟨_, rfl, _, rfl, _, _, rfl, rfl, .inl ⟨by decide, by decide⟩, _, _, rfl, rfl, _, _, rfl, rfl, .inl (mod_lim (by decide) (by decide)), _, rfl, _, _, rfl, rfl, .inl ⟨by decide, by decide⟩, _, rfl, _, _, rfl, rfl, .inr ⟨by omega, by omega⟩, _, _, rfl, rfl, _, _, rfl, rfl, _, _, rfl, rfl,
              ⟨by decide, by decide, mix2 (by decide) (by decide) ht ht2 (by decide) (by decide) (by decide) (by decide) (by decide) (by decide)⟩, .inl ⟨_, rfl, _, _, rfl, rfl, (by show (0 : Int) < _; decide), ?_⟩⟩
            exact ⟨_, rfl, _, _, rfl, rfl, ⟨by decide, by decide⟩, .inl ⟨_, rfl, _, rfl, _, _, rfl, rfl, hm, end_ _⟩⟩
        · refine ⟨_, rfl, .inl ⟨_, rfl, _, _, rfl, rfl, (by show (0 : Int) < _; decide), _, rfl, _, _, rfl, rfl, .inl ⟨by decide, by decide⟩, _, _, rfl, rfl, _, _, rfl, rfl, _, _, rfl, rfl, ⟨by decide, by decide, mix1 (by decide) (by decide) ht ht2 (by decide) (by decide) (by decide) (by decide)⟩, .inl ⟨_, rfl, _, _, rfl, rfl, (by show (0 : Int) < _; decide), ?_⟩⟩⟩
          refine ⟨_, rfl, _, rfl, _, _, rfl, rfl, .inl ⟨by decide, by decide⟩, _, _, rfl, rfl, _, _, rfl, rfl, .inl (mod_lim (by decide) (by decide)), _, rfl, _, _, rfl, rfl, .inl ⟨by decide, by decide⟩, _, rfl, _, _, rfl, rfl, .inr ⟨by omega, by omega⟩, _, _, rfl, rfl, _, _, rfl, rfl, _, _, rfl, rfl,
            ⟨by decide, by decide, mix2 (by decide) (by decide) ht ht2 (by decide) (by decide) (by decide) (by decide) (by decide) (by decide)⟩, .inl ⟨_, rfl, _, _, rfl, rfl, (by show (0 : Int) < _; decide), ?_⟩⟩
          exact ⟨_, rfl, _, _, rfl, rfl, ⟨by decide, by decide⟩, .inl ⟨_, rfl, _, rfl, _, _, rfl, rfl, hm, end_ _⟩⟩
      refine ⟨_, rfl, p, _, _, _, rfl, rfl, SqL.of upd_same, rfl, Nat.zero_le _, fun l0 hl0 => ?_⟩
      have hp1 : (upd (upd H p (.lst [.ref b, .int (t + 1), .int l])) l0 (.lst [])) p = some (.lst [.ref b, .int (t + 1), .int l]) := by
        rw [upd_ne (ne_of_none upd_same hl0), upd_same]
      have hb1 : (upd (upd H p (.lst [.ref b, .int (t + 1), .int l])) l0 (.lst [])) b = some (.lst (ns.map V.int)) := by
        have e : (upd H p (.lst [.ref b, .int (t + 1), .int l])) b = some (.lst (ns.map V.int)) := by
          rw [upd_ne npb.symm]
          exact hb
        rw [upd_ne (ne_of_none e hl0)]
        exact e
      have S1 : But p H (upd (upd H p (.lst [.ref b, .int (t + 1), .int l])) l0 (.lst [])) := but_at.trans (But.of (same_new hl0))
      refine ⟨.list (ns.map PyData.int), .list [], Dp.lst (SqL.of hb1) (dp_ints ns), Dp.lst (SqL.of upd_same) .nil, shaped_ints ns, shaped_ints [], _, rfl, ?_⟩
      rw [eqv_nil]
      refine ite2 (fun c => ?_) (fun c => ?_)
      · have c : ns ≠ [] := by simpa using c
        have hl : 0 < ns.length := List.length_pos_iff.mpr c
        have hl2 : (0 : Int) < ((ns.map V.int).length : Nat) := by
          rw [List.length_map]
          omega
        have h1 := Int.emod_nonneg t (show (((ns.map V.int).length : Nat) : Int) ≠ 0 by omega)
        have h2 := Int.emod_lt_of_pos t hl2
        obtain ⟨j, hj⟩ : ∃ j : Nat, t % (((ns.map V.int).length : Nat) : Int) = (j : Int) := ⟨_, (Int.toNat_of_nonneg h1).symm⟩
        have hj2 : j < ns.length := by
          rw [List.length_map] at hj h2
          omega
        have hx : (ns.map V.int)[j]? = some (V.int ns[j]) := by
          rw [List.getElem?_map, List.getElem?_eq_getElem hj2]
          rfl
        refine ⟨_, rfl, p, _, _, _, rfl, rfl, SqL.of hp1, rfl, ?_⟩
        refine ⟨_, rfl, .inl ⟨_, rfl, _, rfl, p, _, _, _, rfl, rfl, SqL.of hp1, rfl, b, _, rfl, .inl (SqL.of hb1), _, _, rfl, rfl, hl2, ?_⟩⟩
        exact ⟨b, _, _, V.int ns[j], rfl, rfl, SqL.of hb1, at_of hj hx, ns[j], rfl, hp1, hb1, S1⟩
      · exact ⟨_, rfl, hp1, hb1, S1⟩

/-- one of some things, drawn -/
def spOne : Sp := fun vs H Q _ => ∃ (p b l : Addr) (n : Nat) (xs : List V), vs = [.ref p, .ref l] ∧ Orch H p b n ∧ n < 1000000 ∧ H l = some (.lst xs) ∧ l ≠ p ∧ 0 < xs.length ∧ xs.length ≤ 1000 ∧
  ∀ (j : Nat) (x : V) (H' : Hp), xs[j]? = some x → Orch H' p b (n + 1) → But p H H' → Q x H'

theorem sc__law_one_of : FnScope ["mill", "some"] ["mill", "some"] (defScope s__law_one_of) := ⟨rfl, rfl, rfl, by decide +kernel, rfl, by decide +kernel, by decide +kernel⟩
theorem ok__law_one_of {f f1 : Addr} {fd fd1 : FuncData} (F : Fun K "_law_one_of" "_law_one_of" s__law_one_of f fd) (T : Blt mg) (D__law_grind : Df K mg "_law_grind" s__law_grind ["mill", "many"] f1 fd1) : FnOk P w K mg base CX0 2 f fd ["mill", "some"] spOne := by
  have G__law_grind : FnOk P w K mg base CX0 1 f1 fd1 ["mill", "many"] spDraw := ok__law_grind D__law_grind.F T
  refine F.ok sc__law_one_of (fun vs H Q E h => ?_) (fun cdv A outer s H vs Q E hr h => ?_)
  · obtain ⟨p, b, l, n, xs, rfl, _⟩ := h
    rfl
  · obtain ⟨p, b, l, n, xs, rfl, O, hn, hl, nlp, h0, h1, k⟩ := h
    refine ⟨_, (pss_one (ps_ret (pe_ix ix_list (pv 1) (pe_call G__law_grind (hr.mono (by decide)) (by rfl) D__law_grind.g D__law_grind.F.kp D__law_grind.b .nil pass0 (pa_cons (pv 0) (pa_cons (pe_callB call_len_seq (by rfl) T.n_len (by decide +kernel) (pa_cons (pv 1) pa_nil)) pa_nil))) (fun _ _ => rfl)))), ?_⟩
    refine ⟨_, rfl, _, rfl, _, rfl, l, xs, rfl, .inl (SqL.of hl), p, b, n, _, rfl, O, hn, by omega, ?_, fun r H' r0 r1 O' B' => ?_⟩
    · show (xs.length : Int).natAbs < 2 ^ 9000
      rw [Int.natAbs_natCast]
      exact Nat.lt_of_le_of_lt h1 (by decide)
    · obtain ⟨j, rfl⟩ := Int.eq_ofNat_of_zero_le r0
      have hj : j < xs.length := by omega
      exact ⟨l, xs, _, xs[j], rfl, rfl, SqL.of (B' l _ hl nlp), atI_nat (List.getElem?_eq_getElem hj), k j _ H' (List.getElem?_eq_getElem hj) O' B'⟩

end
end K12
/-! Texts of numbers: what the program's integer_of tells of any text. -/
namespace MT
open PySem PySem.Spec PyProof.Rows L2
abbrev cs (s : Str) : List Nat := s.cps.toList
def dig (c : Nat) : Bool := decide (48 ≤ c) && decide (c ≤ 57)
def digs (l : List Nat) : Bool := !l.isEmpty && l.all dig
def worth (l : List Nat) : Nat := l.foldl (fun n c => n * 10 + (c - 48)) 0
theorem len_cs (s : Str) : (cs s).length = s.length := by
  show s.cps.toList.length = s.cps.size
  simp
theorem str_ext {s t : Str} (h : cs s = cs t) : s = t := by
  cases s; cases t
  exact congrArg Str.mk (Array.toList_inj.mp h)
theorem ascii_dig : ∀ c < 128, Unicode.isDigit c = dig c := by decide +kernel
theorem digit_iff (s : Str) : (Txt.isascii s && Txt.isdigit s) = digs (cs s) := by
  unfold Txt.isascii Txt.isdigit digs
  have e1 : decide (s.length > 0) = !(cs s).isEmpty := by
    rw [← len_cs]
    cases cs s <;> simp
  rw [e1]
  rw [← Array.all_toList, ← Array.all_toList]
  show ((cs s).all (fun x => decide (x < 128)) && (!(cs s).isEmpty && (cs s).all Unicode.isDigit)) = _
  generalize cs s = l
  rw [Bool.and_left_comm]
  refine congrArg (fun b => (!l.isEmpty) && b) ?_
  induction l with
  | nil => rfl
  | cons a r ih =>
    simp only [List.all_cons]
    rw [← ih]
    by_cases h : a < 128
    · rw [ascii_dig a h, decide_eq_true h]
      cases dig a <;> cases (r.all fun x => decide (x < 128)) <;> cases r.all Unicode.isDigit <;> rfl
    · have : dig a = false := by
        unfold dig
        rw [decide_eq_false (show ¬ a ≤ 57 by omega), Bool.and_false]
      rw [this, decide_eq_false h]
      rfl
theorem digs_all {l : List Nat} (h : digs l = true) : ∀ c ∈ l, 48 ≤ c ∧ c ≤ 57 := by
  unfold digs at h
  rw [Bool.and_eq_true] at h
  intro c hc
  have := List.all_eq_true.mp h.2 c hc
  unfold dig at this
  rw [Bool.and_eq_true] at this
  exact ⟨of_decide_eq_true this.1, of_decide_eq_true this.2⟩
theorem digs_ne {l : List Nat} (h : digs l = true) : l ≠ [] := by
  rintro rfl
  cases h
theorem worth_is (l : List Nat) : NumText.digitsVal l = worth l := rfl
theorem int_pos (s : Str) (h : digs (cs s) = true) (hl : s.length ≤ 4300) : PySem.intText? s = some (worth (cs s) : Int) := PySem.intText_digits (digs_all h) (digs_ne h) hl
theorem int_neg (s : Str) {l : List Nat} (e : cs s = 45 :: l) (h : digs l = true) (hl : s.length ≤ 4300) : PySem.intText? s = some (-(worth l : Int)) := PySem.intText_neg e (digs_all h) (digs_ne h) hl
/-- the text behind a '-' -/
def behind (l : List Nat) : List Nat := match l with | 45 :: r => r | l => l
theorem drop_minus (s : Str) : cs (Txt.removeprefix s "-") = behind (cs s) := by
  have hm : ("-" : Str) = ⟨#[45]⟩ := by decide +kernel
  rw [hm]
  obtain ⟨⟨l⟩⟩ := s
  cases l with
  | nil => rfl
  | cons a r =>
    unfold Txt.removeprefix Builtin.Str.subAt
    have e1 : (#[45] : Array Nat).size = 1 := rfl
    have ex : ((⟨a :: r⟩ : Array Nat).extract 0 (0 + (⟨#[45]⟩ : Str).length) == #[45]) = decide (a = 45) := by
      show ((⟨a :: r⟩ : Array Nat).extract 0 1 == #[45]) = _
      have : (⟨a :: r⟩ : Array Nat).extract 0 1 = #[a] := by
        apply Array.toList_inj.mp
        simp
      rw [this]
      show (([a] : List Nat) == [45]) = _
      by_cases h : a = 45
      · subst h; rfl
      · rw [decide_eq_false h]
        exact beq_false_of_ne (by simpa using h)
    rw [ex]
    by_cases h : a = 45
    · subst h
      rw [decide_eq_true rfl, if_pos rfl]
      unfold Txt.affix
      show cs (if (r.length + 1 - 1 == r.length + 1) = true then _ else _) = r
      rw [if_neg (by rw [beq_false_of_ne (by omega)]; decide)]
      show ((⟨45 :: r⟩ : Array Nat).extract 1 (r.length + 1)).toList = r
      simp
    · rw [decide_eq_false h, if_neg (by decide)]
      show a :: r = behind (a :: r)
      unfold behind
      split
      · rename_i z
        exact absurd (List.cons.inj z).1 h
      · rfl
theorem starts_zero (s : Str) : Txt.startswith s "0" = decide ((cs s).head? = some 48) := by
  have hm : ("0" : Str) = ⟨#[48]⟩ := by decide +kernel
  rw [hm]
  obtain ⟨⟨l⟩⟩ := s
  cases l with
  | nil => rfl
  | cons a r =>
    unfold Txt.startswith Builtin.Str.subAt
    have ex : ((⟨a :: r⟩ : Array Nat).extract 0 (0 + (⟨#[48]⟩ : Str).length) == #[48]) = decide (a = 48) := by
      show ((⟨a :: r⟩ : Array Nat).extract 0 1 == #[48]) = _
      have : (⟨a :: r⟩ : Array Nat).extract 0 1 = #[a] := by
        apply Array.toList_inj.mp
        simp
      rw [this]
      show (([a] : List Nat) == [48]) = _
      by_cases h : a = 48
      · subst h; rfl
      · rw [decide_eq_false h]
        exact beq_false_of_ne (by simpa using h)
    rw [ex]
    show (decide (0 + 1 ≤ r.length + 1) && decide (a = 48)) = _
    rw [decide_eq_true (by omega), Bool.true_and]
    show decide (a = 48) = decide (some a = some 48)
    exact decide_eq_decide.mpr (by simp)
/-- what integer_of tells -/
def intOf (s : Str) : Option Int :=
  let d := behind (cs s)
  if digs d = true ∧ d.length ≤ 140 ∧ (d.head? = some 48 → s = "0") then some (if (cs s).head? = some 45 then -(worth d : Int) else (worth d : Int)) else none
theorem in_digits (c : Nat) : (!(Builtin.Str.occurrences ("0123456789" : Str) ⟨#[c]⟩ 0 ("0123456789" : Str).length 1).isEmpty) = dig c := by
  rw [StrLaws.found_one, show ("0123456789" : Str).cps.toList = [48, 49, 50, 51, 52, 53, 54, 55, 56, 57] by decide +kernel]
  unfold dig
  rw [← Bool.decide_and]
  refine decide_eq_decide.mpr ?_
  simp
  omega
end MT
/-! A text times a number. -/
namespace OB
open PySem PySem.Spec PyProof.Rows L2
theorem mul_len (x : Str) (n : Nat) : (Txt.mul x (n : Int)).length ≤ x.length * n := by
  unfold Txt.mul
  by_cases h1 : (n : Int) < 1
  · rw [if_pos h1]
    show (0 : Nat) ≤ _
    omega
  · rw [if_neg h1]
    by_cases h2 : (((n : Int) == 1 || x.length == 0) = true)
    · rw [if_pos h2]
      exact Nat.le_mul_of_pos_right _ (by omega)
    · rw [if_neg h2, Int.toNat_natCast]
      have gen : ∀ (m : Nat) (a : Array Nat), ((List.replicate m x.cps).foldl (· ++ ·) a).size = a.size + x.cps.size * m := by
        intro m
        induction m with
        | zero => intro a; simp
        | succ m ih =>
          intro a
          rw [List.replicate_succ, List.foldl_cons, ih, Array.size_append, Nat.mul_succ]
          omega
      show ((List.replicate n x.cps).foldl (· ++ ·) #[]).size ≤ x.cps.size * n
      rw [gen]
      simp
theorem op_mulS {X : Cx} : OpR X (binaryOp .Mult) (fun x y H Q => ∃ (a : Str) (n : Nat), x = .str a ∧ y = .int (n : Int) ∧ a.length * n ≤ 1000000 ∧ n ≤ 1000000 ∧ ∀ z, z = Txt.mul a (n : Int) → Q (.str z) H) := by
  intro pins s σ H x y v u Q I rx ry h
  obtain ⟨a, n, rfl, rfl, hz, hn, q⟩ := h
  obtain ⟨t, rfl⟩ := rx
  obtain ⟨t', rfl⟩ := ry
  refine SB.mul ⟨?_, fun h1 h2 h3 => ?_, fun h1 h2 => ?_⟩ fun t' k => ⟨.str _, H, I.tok _, ⟨_, rfl⟩, q _ rfl⟩
  · rw [decide_eq_false (show ¬ (n : Int) < -(2 ^ 63) by omega), decide_eq_false (show ¬ (n : Int) ≥ 2 ^ 63 by omega)]
    rfl
  · have h4 : (2 ^ 63 - 1 : Int) / (n : Int) < (a.length : Int) := h3
    rw [Int.ediv_lt_iff_lt_mul (by omega)] at h4
    have : ((a.length * n : Nat) : Int) ≤ 1000000 := by omega
    rw [Int.natCast_mul] at this
    omega
  · unfold Builtin.Str.tooLong
    have : a.length * n ≤ sizeLine := by rw [sizeLine_eq]; omega
    rw [Int.toNat_natCast]
    exact decide_eq_false (by omega)
end OB
/-! Texts of numbers from 0 on: what is canonical, and that only the number's own text is. -/
namespace MN
open PySem PySem.Spec PyProof.Rows L2 MT OB PySem.NumText
def num (s : Str) : Option Nat := if digs (cs s) = true ∧ s.length ≤ 140 ∧ ((cs s).head? = some 48 → s = "0") then some (worth (cs s)) else none
def inR (s : Str) (lo hi : Int) : Bool := match num s with
  | some n => decide (lo ≤ (n : Int)) && decide ((n : Int) ≤ hi)
  | none => false
theorem cs_ds (n : Nat) : cs (ds n) = (Nat.toDigits 10 n).map Char.toNat := PySem.W.KIN.signs_num n
theorem back : ∀ c, 48 ≤ c → c ≤ 57 → (Char.ofNat c).toNat = c := fun c h1 h2 => (show ∀ d < 58, 48 ≤ d → (Char.ofNat d).toNat = d by decide) c (by omega) h1
theorem num_text {s : Str} {n : Nat} (h : num s = some n) : s = ds n := by
  unfold num at h
  split at h
  · rename_i c
    obtain ⟨hd, hl, hz⟩ := c
    have e := (Option.some.inj h).symm
    subst e
    refine str_ext ?_
    rw [cs_ds]
    have al := digs_all hd
    have ne := digs_ne hd
    have key : Nat.toDigits 10 (worth (cs s)) = (cs s).map Char.ofNat := by
      refine NumText.toDigits_digitsVal ((cs s).length - 1) (cs s) ?_ al ?_
      · have := List.length_pos_iff.mpr ne
        omega
      · by_cases z : (cs s).head? = some 48
        · left
          rw [hz z]
          decide +kernel
        · right
          cases e : cs s with
          | nil => exact absurd e ne
          | cons c r =>
            refine ⟨c, r, rfl, ?_⟩
            have h1 := al c (by rw [e]; exact List.mem_cons_self)
            have h2 : c ≠ 48 := fun y => z (by rw [e, y]; rfl)
            omega
    rw [key, List.map_map]
    have : ∀ c ∈ cs s, (Char.toNat ∘ Char.ofNat) c = c := fun c hc => back c (al c hc).1 (al c hc).2
    rw [List.map_congr_left this, List.map_id']
  · cases h
theorem toD_dig (n : Nat) : digs ((Nat.toDigits 10 n).map Char.toNat) = true := by
  unfold digs
  rw [Bool.and_eq_true]
  constructor
  · have := toDigits_len_ge 10 n
    cases e : Nat.toDigits 10 n with
    | nil => rw [e] at this; simp at this
    | cons a r => rfl
  · rw [List.all_eq_true]
    intro c hc
    obtain ⟨d, hd, rfl⟩ := List.mem_map.mp hc
    have := Nat.isDigit_of_mem_toDigits (by decide) (by decide) hd
    unfold Char.isDigit at this
    simp at this
    have h1 : (48 : UInt32).toNat ≤ d.val.toNat := this.1
    have h2 : d.val.toNat ≤ (57 : UInt32).toNat := this.2
    unfold dig
    rw [Bool.and_eq_true]
    exact ⟨decide_eq_true h1, decide_eq_true h2⟩
theorem worth_toD (n : Nat) : worth ((Nat.toDigits 10 n).map Char.toNat) = n := PySem.W.KIN.val_back n
theorem head_pos (n : Nat) (h : ((Nat.toDigits 10 n).map Char.toNat).head? = some 48) : n = 0 := by
  induction n using Nat.strongRecOn with
  | ind n ih =>
    by_cases c : n < 10
    · clear ih
      exact (show ∀ m < 10, ((Nat.toDigits 10 m).map Char.toNat).head? = some 48 → m = 0 by decide) n c h
    · have hd : Nat.toDigits 10 n = Nat.toDigits 10 (n / 10) ++ [Nat.digitChar (n % 10)] := by
        rw [Nat.toDigits_of_base_le (by decide) (by omega)]
      have ne : Nat.toDigits 10 (n / 10) ≠ [] := fun e => by
        have := toDigits_len_ge 10 (n / 10)
        rw [e] at this
        simp at this
      rw [hd, List.map_append, List.head?_append] at h
      have hs : ∃ x, ((Nat.toDigits 10 (n / 10)).map Char.toNat).head? = some x := by
        cases e : Nat.toDigits 10 (n / 10) with
        | nil => exact absurd e ne
        | cons a r => exact ⟨_, rfl⟩
      obtain ⟨x, hx⟩ := hs
      rw [hx] at h
      have h : some x = some 48 := h
      rw [← hx] at h
      have := ih (n / 10) (by omega) h
      omega
theorem num_ds {n : Nat} (h : (ds n).length ≤ 140) : num (ds n) = some n := by
  unfold num
  rw [if_pos, cs_ds, worth_toD]
  refine ⟨by rw [cs_ds]; exact toD_dig n, h, fun z => ?_⟩
  rw [cs_ds] at z
  rw [head_pos n z]
  decide +kernel
theorem worth_pos {l : List Nat} (h : digs l = true) (h0 : l.head? ≠ some 48) : 0 < worth l := by
  cases l with
  | nil => cases h
  | cons c r =>
    have := digs_all h c List.mem_cons_self
    have h2 : c ≠ 48 := fun y => h0 (by rw [y]; rfl)
    exact NumText.digitsVal_pos (by omega)
theorem behind_not {l : List Nat} (h : l.head? ≠ some 45) : behind l = l := by
  unfold behind
  split
  · exact absurd rfl h
  · rfl
theorem int_num {s : Str} {lo hi : Int} (h0 : 0 ≤ lo) : (match intOf s with | some v => decide (lo ≤ v) && decide (v ≤ hi) | none => false) = inR s lo hi := by
  by_cases z : (cs s).head? = some 45
  · have nn : num s = none := by
      unfold num
      rw [if_neg]
      rintro ⟨h1, _, _⟩
      cases e : cs s with
      | nil => rw [e] at z; cases z
      | cons a r =>
        rw [e] at z h1
        have := digs_all h1 a List.mem_cons_self
        have := Option.some.inj z
        omega
    unfold inR
    rw [nn]
    unfold intOf
    simp only
    split
    · rename_i v hv
      split at hv
      · rename_i c
        have e := Option.some.inj hv
        obtain ⟨h1, h2, h3⟩ := c
        have : 0 < worth (behind (cs s)) := worth_pos h1 fun y => by
          have e0 := h3 y
          rw [e0] at z
          exact absurd z (by decide +kernel)
        rw [decide_eq_false (show ¬ lo ≤ v by omega)]
        rfl
      · cases hv
    · rfl
  · unfold intOf inR num
    simp only [behind_not z, len_cs, if_neg z]
    by_cases c : digs (cs s) = true ∧ s.length ≤ 140 ∧ ((cs s).head? = some 48 → s = "0")
    · rw [if_pos c, if_pos c]
    · rw [if_neg c, if_neg c]
theorem inR_ds {n : Nat} {lo hi : Int} (h : (ds n).length ≤ 140) : inR (ds n) lo hi = (decide (lo ≤ (n : Int)) && decide ((n : Int) ≤ hi)) := by
  unfold inR
  rw [num_ds h]
theorem inR_ex {s : Str} {lo hi : Int} (h : inR s lo hi = true) : ∃ n : Nat, s = ds n ∧ num s = some n ∧ lo ≤ (n : Int) ∧ (n : Int) ≤ hi := by
  unfold inR at h
  cases e : num s with
  | none => rw [e] at h; cases h
  | some n =>
    rw [e] at h
    have h : (decide (lo ≤ (n : Int)) && decide ((n : Int) ≤ hi)) = true := h
    rw [Bool.and_eq_true] at h
    exact ⟨n, num_text e, rfl, of_decide_eq_true h.1, of_decide_eq_true h.2⟩
theorem int_of_num {s : Str} {n : Nat} (h : num s = some n) : intOf s = some (n : Int) := by
  unfold num at h
  split at h
  · rename_i c
    obtain ⟨hd, hl, hz⟩ := c
    have e := (Option.some.inj h).symm
    subst e
    have z : ¬ (cs s).head? = some 45 := fun z => by
      cases e : cs s with
      | nil => rw [e] at z; cases z
      | cons a r =>
        rw [e] at z hd
        have := digs_all hd a List.mem_cons_self
        have := Option.some.inj z
        omega
    unfold intOf
    simp only [behind_not z, len_cs, if_neg z]
    rw [if_pos ⟨hd, hl, hz⟩]
  · cases h
theorem int_ok {s : Str} (D : digs (behind (cs s)) = true) (hl : (behind (cs s)).length ≤ 140) (h3 : (behind (cs s)).head? = some 48 → s = "0") (sl : s.length ≤ 4300) : ∃ v, intOf s = some v ∧ PySem.intText? s = some v := by
  by_cases hm : (cs s).head? = some 45
  · obtain ⟨l, el⟩ : ∃ l, cs s = 45 :: l := by
      cases e : cs s with
      | nil => rw [e] at hm; cases hm
      | cons a r =>
        rw [e] at hm
        cases hm
        exact ⟨r, rfl⟩
    have bl : behind (cs s) = l := by rw [el]; rfl
    refine ⟨-(worth l : Int), ?_, MT.int_neg s el (bl ▸ D) sl⟩
    unfold intOf
    simp only
    rw [if_pos ⟨D, hl, h3⟩, if_pos hm, bl]
  · refine ⟨(worth (cs s) : Int), ?_, MT.int_pos s (by rw [behind_not hm] at D; exact D) sl⟩
    unfold intOf
    simp only
    rw [if_pos ⟨D, hl, h3⟩, if_neg hm, behind_not hm]
theorem inR_of {s : Str} {n : Nat} {lo hi : Int} (h : num s = some n) (h1 : lo ≤ (n : Int)) (h2 : (n : Int) ≤ hi) : inR s lo hi = true := by
  unfold inR
  rw [h]
  show (decide (lo ≤ (n : Int)) && decide ((n : Int) ≤ hi)) = true
  rw [decide_eq_true h1, decide_eq_true h2]
  rfl
theorem mem_sum {α : Type} {f : α → Nat} : ∀ {l : List α} {y : α}, y ∈ l → f y ≤ (l.map f).sum
  | a :: r, y, h => by
    rw [List.map_cons, List.sum_cons]
    rcases List.mem_cons.mp h with rfl | h
    · omega
    · have := mem_sum (f := f) h
      omega
theorem split_short {z y : Str} (h : y ∈ Txt.split z " ") : y.length ≤ z.length := by
  have w := PyProof.Rows.split_weight z " " (by decide +kernel)
  have := mem_sum (f := (·.length)) h
  have := List.length_pos_of_mem h
  omega
/-- each sign is below 256 -/
def asc (s : Str) : Prop := ∀ c ∈ cs s, c < 256
theorem in_join {y : Str} {c : Nat} (hc : c ∈ cs y) : ∀ {l : List Str}, y ∈ l → c ∈ cs (Str.join " " l)
  | [a], h => by
    rw [List.mem_singleton.mp h] at hc
    exact hc
  | a :: b :: r, h => by
    show c ∈ TL.tl (a ++ " " ++ Str.join " " (b :: r))
    rw [TL.tl_append, TL.tl_append, List.mem_append, List.mem_append]
    rcases List.mem_cons.mp h with rfl | h
    · exact .inl (.inl hc)
    · exact .inr (in_join hc h)
theorem split_asc {z y : Str} (hz : asc z) (h : y ∈ Txt.split z " ") : asc y := fun c hc => by
  refine hz c ?_
  have := in_join hc h
  rw [StrLaws.join_split z " "] at this
  exact this
theorem asc_join : ∀ l : List Str, (∀ y ∈ l, asc y) → asc (Txt.join " " l)
  | [], _ => by
    have e : cs (Txt.join " " []) = [] := by decide +kernel
    intro c hc
    rw [e] at hc
    exact absurd hc List.not_mem_nil
  | [a], h => by
    rw [TL.join_eq]
    exact h a List.mem_cons_self
  | a :: b :: r, h => by
    have ih := asc_join (b :: r) fun y hy => h y (List.mem_cons_of_mem _ hy)
    rw [TL.join_eq] at ih ⊢
    intro c hc
    have hc : c ∈ TL.tl (a ++ " " ++ Str.join " " (b :: r)) := hc
    rw [TL.tl_append, TL.tl_append, List.mem_append, List.mem_append] at hc
    rcases hc with (hc | hc) | hc
    · exact h a List.mem_cons_self c hc
    · have e : TL.tl (" " : Str) = [32] := by decide +kernel
      rw [e, List.mem_singleton] at hc
      omega
    · exact ih c hc
theorem join_len (k : Nat) : ∀ l : List Str, (∀ y ∈ l, y.length ≤ k) → (Txt.join " " l).length ≤ l.length * (k + 1)
  | [], _ => by
    rw [List.length_nil, Nat.zero_mul]
    exact Nat.le_of_eq (show (Txt.join " " []).length = 0 by decide +kernel)
  | [a], h => by
    have := h a List.mem_cons_self
    rw [TL.join_eq]
    show a.length ≤ 1 * (k + 1)
    omega
  | a :: b :: r, h => by
    have ih := join_len k (b :: r) fun y hy => h y (List.mem_cons_of_mem _ hy)
    have := h a List.mem_cons_self
    have e3 : (" " : Str).length = 1 := by decide +kernel
    rw [TL.join_eq] at ih ⊢
    show ((a ++ " ") ++ Str.join " " (b :: r)).length ≤ _
    rw [Str.length_append, Str.length_append, e3, List.length_cons, Nat.succ_mul]
    omega
theorem mul_asc {x : Str} {n : Nat} (h : asc x) : asc (Txt.mul x (n : Int)) := by
  unfold Txt.mul
  split
  · intro c hc
    exact absurd hc (by show c ∉ ([] : List Nat); simp)
  · split
    · exact h
    · intro c hc
      have gen : ∀ (m : Nat) (a : Array Nat), (∀ c ∈ a.toList, c < 256) → ∀ c ∈ ((List.replicate m x.cps).foldl (· ++ ·) a).toList, c < 256 := by
        intro m
        induction m with
        | zero => intro a ha; simpa using ha
        | succ m ih =>
          intro a ha
          rw [List.replicate_succ, List.foldl_cons]
          refine ih _ fun c hc => ?_
          rw [Array.toList_append] at hc
          rcases List.mem_append.mp hc with z | z
          · exact ha c z
          · exact h c z
      exact gen _ #[] (by simp) c hc
theorem asc_ds (n : Nat) : asc (ds n) := fun c hc => by
  have := digs_all (toD_dig n) c (by rw [← cs_ds]; exact hc)
  omega
theorem join_split (z : Str) : Txt.join " " (Txt.split z " ") = z := by
  rw [TL.join_eq]
  exact StrLaws.join_split z " "
end MN
/-! Lambdas by generator: what they bind, and that a call's reading grows with what is wanted. -/
namespace OB
open PySem PySem.Spec PyProof.Rows L2 LamX
def MTA (t : TA) : Prop := ∀ σ H (Q1 Q2 : List V → Hp → Prop), (∀ vs H, Q1 vs H → Q2 vs H) → t σ H Q1 → t σ H Q2
def MTE (t : TE) : Prop := ∀ σ H (Q1 Q2 : VK), (∀ v H, Q1 v H → Q2 v H) → t σ H Q1 → t σ H Q2
theorem mta_nil : MTA tNil := fun σ H Q1 Q2 h z => h _ _ z
theorem mta_cons {a : TE} {r : TA} (ha : MTE a) (hr : MTA r) : MTA (tCons a r) := fun σ H Q1 Q2 h z => ha σ H _ _ (fun x H1 z1 => hr σ H1 _ _ (fun xs H2 z2 => h _ _ z2) z1) z
theorem mte_var {i : Nat} : MTE (tVar i) := fun σ H Q1 Q2 h ⟨v, e, z⟩ => ⟨v, e, h _ _ z⟩
theorem mte_c {v : V} : MTE (tC v) := fun σ H Q1 Q2 h z => h _ _ z
theorem mte_lst {t : TA} (ht : MTA t) : MTE (tLst t) := fun σ H Q1 Q2 h z => ht σ H _ _ (fun xs H1 ⟨l, z1⟩ => ⟨l, fun p hp => h _ _ (z1 p hp)⟩) z
theorem mte_tup {t : TA} (ht : MTA t) : MTE (tTup t) := fun σ H Q1 Q2 h z => ht σ H _ _ (fun xs H1 ⟨l, z1⟩ => ⟨l, fun p hp => h _ _ (z1 p hp)⟩) z
def SpMono (sp : Sp) : Prop := ∀ vs H (Q1 Q2 : VK) (E1 E2 : XK), (∀ c d H, E1 c d H → E2 c d H) → (∀ v H, Q1 v H → Q2 v H) → sp vs H Q1 E1 → sp vs H Q2 E2
theorem mono_S {sp : Sp} {t : TA} (hs : SpMono sp) (ht : MTA t) : ∀ σ : L2.St, MonoL fun E H' Q' => tCallS sp (WE fun cls d _ H => E cls d H) t σ H' Q' :=
  fun σ E1 E2 H Q1 Q2 hE hQ z => ht σ H _ _ (fun vs H1 z1 => hs _ _ _ _ _ _ (fun c d H => hE c d H) (fun v H => hQ v H) z1) z
theorem mono_KS {sp : Sp} {gV : List V → List V → List V} {t : TA} (hs : SpMono sp) (ht : MTA t) : ∀ σ : L2.St, MonoL fun E H' Q' => tCallKS sp gV (WE fun cls d _ H => E cls d H) tNil t σ H' Q' :=
  fun σ E1 E2 H Q1 Q2 hE hQ z => ht σ H _ _ (fun vs H1 z1 => hs _ _ _ _ _ _ (fun c d H => hE c d H) (fun v H => hQ v H) z1) z
theorem bind_0 {pr : Arguments} (h : ∀ (q : Str) (body : Expr) (scope : Scope) (cl : List (Str × Addr)) (pm cv ctv : Value), bindArgs (lFn q pr body scope cl .none pm cv ctv) ⟨[], []⟩ = pure []) : ∀ ds : List Value, Vals (([] : List Int).map V.int) ds → LamB pr [] ds := fun ds rd => by
  cases rd
  exact lamB0 h
theorem bind_1 {pr : Arguments} {a : Str} {n : Int} (h : ∀ (d : Value) (q : Str) (body : Expr) (scope : Scope) (cl : List (Str × Addr)) (T : Addr) (pm cv ctv : Value), ∃ k, bindArgs (lFn q pr body scope cl (.ref T) pm cv ctv) ⟨[], []⟩ = seqItems? (.ref T) >>= k ∧ k (some #[d]) = pure [(a, d)]) :
    ∀ ds : List Value, Vals (([n] : List Int).map V.int) ds → LamB pr [a] ds := fun ds rd => by
  cases rd with
  | cons r rr =>
    cases rr
    exact lamB1 (h _)
theorem hu_0 {P1 : Addr} {q1 : Str} : ∀ p ∈ [(P1, q1)], p.1 = P1 → p.2 = q1 := fun p hp _ => congrArg Prod.snd (List.mem_singleton.mp hp)
theorem hu_1 {P1 P2 : Addr} {q1 q2 : Str} (n : P1 ≠ P2) : ∀ p ∈ [(P1, q1), (P2, q2)], p.1 = P1 → p.2 = q1 := fun p hp e => by
  rcases List.mem_cons.mp hp with rfl | hp
  · rfl
  · rw [List.mem_singleton.mp hp] at e
    exact absurd e.symm n
theorem hu_2 {P1 P2 : Addr} {q1 q2 : Str} (n : P1 ≠ P2) : ∀ p ∈ [(P1, q1), (P2, q2)], p.1 = P2 → p.2 = q2 := fun p hp e => by
  rcases List.mem_cons.mp hp with rfl | hp
  · exact absurd e n
  · exact congrArg Prod.snd (List.mem_singleton.mp hp)
end OB
/-! Making an object, a static method, a method, where what is raised passes at the slots. -/
namespace OB
open PySem PySem.Spec PyProof.Rows L2 ClX
def tMakeS (C : Addr) (sp : Sp) (E : L2.St → XK) (t : TA) : TE := fun σ H Q => t σ H fun vs H1 => ∀ x dx, H1 x = none → H1 dx = none → dx ≠ x →
  sp (.ref x :: vs) (upd (upd H1 dx (.own x)) x (.ins C dx [])) (fun v H2 => v = .non ∧ Q (.ref x) H2) (E σ)
def tMethS (C : Addr) (m : Str) (sp : Sp) (E : L2.St → XK) (ta : TE) (t : TA) : TE := fun σ H Q => ta σ H fun x H1 => ∃ a dx fs, x = .ref a ∧ H1 a = some (.ins C dx fs) ∧ fs.lookup m = none ∧
  t σ H1 fun vs H2 => sp (x :: vs) H2 Q (E σ)
def tSMethS (C : Addr) (sp : Sp) (E : L2.St → XK) (ta : TE) (t : TA) : TE := fun σ H Q => ta σ H fun x H1 => x = .ref C ∧ t σ H1 fun vs H2 => sp vs H2 Q (E σ)
section
variable {X : Cx} {CX : CXT} {k : Nat} {C f p g : Addr} {fd : FuncData} {ps ks : List Str} {mc : Value} {sp : Sp} {E : L2.St → XK} {x : Str} {p1 : Pos} {o e : Expr} {es : List Expr} {kws : List Keyword} {m : Str} {pos apos : Pos} {ta : TE} {t tk : TA} {pl : Sem Bool}
theorem run_makeS {pins : List (Addr × Obj)} {σ : L2.St} {H : Hp} {s : Shared} {Q : VK} {us : List Value} {vs : List V} (M : Mk X.K C f) (F : FnOk X.prog X.w X.K X.mg X.base CX k f fd ps sp) (hr : Room (k + 1) X.A) (hb : L2.Binds X.K fd ps [])
    (hx : PassesAt CX X σ (E σ)) (I : Inv X pins σ H s) (r : Vals vs us)
    (h : ∀ x dx, H x = none → H dx = none → dx ≠ x → sp (.ref x :: vs) (upd (upd H dx (.own x)) x (.ins C dx [])) (fun v H2 => v = .non ∧ Q (.ref x) H2) (E σ)) :
    wpAny (model X.prog X.w) X.A (call (.ref C) us) (EP X pins σ Q) X.xe s := by
  have hq := h (s.heap.objs.size + 1) s.heap.objs.size (I.hok.fresh (Nat.le_succ _)) (I.hok.fresh (Nat.le_refl _)) (Nat.ne_of_lt (Nat.lt_succ_self _))
  have I2 := Inv.made (C := C) I
  have r2 : Vals (V.ref (s.heap.objs.size + 1) :: vs) (Value.ref (s.heap.objs.size + 1) :: us) := .cons rfl r
  have hl : (Value.ref (s.heap.objs.size + 1) :: us ++ []).length = ps.length := by
    have e := r2.length
    rw [F.len _ _ _ _ hq] at e
    rw [List.append_nil]
    exact e.symm
  have b := hb _ (Value.ref (s.heap.objs.size + 1) :: us) I2.kIn hl
  rw [List.append_nil] at b
  refine wpAny_call (make_map (f := f) I.kIn M.makes M.init (beq_iff_eq.mp M.fn) (codeAny_mono (F.run _ X.stack _ _ ⟨Value.ref (s.heap.objs.size + 1) :: us, []⟩ (Value.ref (s.heap.objs.size + 1) :: us) _ _ (E σ) (hr.make C us [])
    (I2.env0.make C us []) b r2 hq) fun r s' hq' => ?_))
  cases r with
  | error e => exact hx pins _ _ e s' I2 hq'
  | ok fl =>
    cases fl with
    | ret u =>
      obtain ⟨v, H', I3, rv, ev, q3⟩ := I2.after hq'
      subst ev
      exact ⟨rv, ⟨V.ref (s.heap.objs.size + 1), H', I3, rfl, q3⟩⟩
    | next => exact False.elim hq'
    | brk => exact False.elim hq'
    | cont => exact False.elim hq'
theorem pe_makeS (M : Mk X.K C f) (F : FnOk X.prog X.w X.K X.mg X.base CX k f fd ps sp) (hr : Room (k + 1) X.A) (hg : Gl X x) (hm : X.mg x = some (.ref C)) (hb : L2.Binds X.K fd ps []) (hx : ∀ σ, PassesAt CX X σ (E σ))
    (ha : PA X (e :: es) t) (hdb : (x == ("__debug__" : Str)) = false := by decide) (he : starEach (e :: es) X.env = (false, eval e X.env) :: starEach es X.env := by rfl) (hpl : (backTo pos (starEach es X.env)).any (·.1) = false := by rfl) :
    PE X (.Call (.Name x p1) (e :: es) [] pos) (tMakeS C sp E t) := by
  refine ⟨fun pins s σ H Q I h => ?_⟩
  refine wpAny_Call_Name_kw (ld_glob I hg hm ?_ hdb)
  refine PySem.W.callWith_K (h₀ := X.base) I.ok.mod.kin M.kp (thn (ha.run pos pins s σ H _ I h) fun us s1 ⟨vs, H1, I1, r, q⟩ => ⟨I1.kIn, ?_⟩) he hpl
  exact run_makeS M F hr hb (hx σ) I1 r q
theorem pe_methE (he : PE X o ta) (c : Cls X.K C) (hm : Meth X.K C m f) (F : FnOk X.prog X.w X.K X.mg X.base CX k f fd ps sp) (hr : Room k X.A) (hb : L2.Binds X.K fd ps []) (hx : ∀ σ, PassesAt CX X σ (E σ)) (ha : PA X (e :: es) t)
    (hst : starEach (e :: es) X.env = (false, eval e X.env) :: starEach es X.env := by rfl) (hpl : (backTo pos (starEach es X.env)).any (·.1) = false := by rfl)
    (ht : eval (.Call (.Attribute o m apos) (e :: es) [] pos) X.env = (do
      let ov ← eval o X.env
      standAt apos.atName
      let (f, first) ← holding [ov] (getMethod ov m pl)
      callWith pos f first (backTo pos (starEach (e :: es) X.env)) (backToKw pos (keywordEach [] X.env))) := by rfl) :
    PE X (.Call (.Attribute o m apos) (e :: es) [] pos) (tMethS C m sp E ta t) := by
  refine ⟨fun pins s σ H Q I h => ?_⟩
  refine PySem.W.methodCall_KW (pl := pl) (thn (he.run pins s σ H _ I h) fun u s1 ⟨x, H1, I1, rx, a, dx, fs, ex, ea, l, q⟩ => ?_) ht
  subst ex
  obtain rfl : u = Value.ref a := rx
  refine getmeth_ok I1 ea c hm l ?_
  refine PySem.W.callWith_K (first := [.ref a]) (h₀ := X.base) I.ok.mod.kin hm.kp (thn (ha.run pos pins s1 σ H1 _ I1 q) fun us s2 ⟨vs, H2, I2, r, q2⟩ => ⟨I2.kIn, ?_⟩) hst hpl
  exact run_fnS (us := .ref a :: us) (vs := .ref a :: vs) F hr hb (hx σ) I2 (.cons rfl r) q2
theorem pe_smethS (he : PE X o ta) (r : CRead X.K C mc) (c : CStat X.K C mc m p g) (F : FnOk X.prog X.w X.K X.mg X.base CX k g fd ps sp) (hr : Room k X.A) (hb : L2.Binds X.K fd ps []) (hx : ∀ σ, PassesAt CX X σ (E σ)) (ha : PA X (e :: es) t)
    (hst : starEach (e :: es) X.env = (false, eval e X.env) :: starEach es X.env := by rfl) (hpl : (backTo pos (starEach es X.env)).any (·.1) = false := by rfl)
    (ht : eval (.Call (.Attribute o m apos) (e :: es) [] pos) X.env = (do
      let ov ← eval o X.env
      standAt apos.atName
      let (f, first) ← holding [ov] (getMethod ov m pl)
      callWith pos f first (backTo pos (starEach (e :: es) X.env)) (backToKw pos (keywordEach [] X.env))) := by rfl) :
    PE X (.Call (.Attribute o m apos) (e :: es) [] pos) (tSMethS C sp E ta t) := by
  refine ⟨fun pins s σ H Q I h => ?_⟩
  refine PySem.W.methodCall_KW (pl := pl) (thn (he.run pins s σ H _ I h) fun u s1 ⟨x, H1, I1, rx, ex, q⟩ => ?_) ht
  subst ex
  obtain rfl : u = Value.ref C := rx
  refine getmethsm_ok I1 r c fun s2 I2 => ?_
  refine PySem.W.callWith_K (h₀ := X.base) (first := []) I.ok.mod.kin c.kp (thn (ha.run pos pins s2 σ H1 _ I2 q) fun us s3 ⟨vs, H2, I3, rv, q2⟩ => ⟨I3.kIn, ?_⟩) hst hpl
  exact run_fnS F hr hb (hx σ) I3 rv q2
end
theorem mono_MS {C : Addr} {sp : Sp} {t : TA} (hs : SpMono sp) (ht : MTA t) : ∀ σ : L2.St, MonoL fun E H' Q' => tMakeS C sp (WE fun cls d _ H => E cls d H) t σ H' Q' :=
  fun σ E1 E2 H Q1 Q2 hE hQ z => ht σ H _ _ (fun vs H1 z1 x dx n1 n2 n3 => hs _ _ _ _ _ _ (fun c d H => hE c d H) (fun v H q => ⟨q.1, hQ _ _ q.2⟩) (z1 x dx n1 n2 n3)) z
theorem mono_SS {C : Addr} {sp : Sp} {ta : TE} {t : TA} (hs : SpMono sp) (ha : MTE ta) (ht : MTA t) : ∀ σ : L2.St, MonoL fun E H' Q' => tSMethS C sp (WE fun cls d _ H => E cls d H) ta t σ H' Q' :=
  fun σ E1 E2 H Q1 Q2 hE hQ z => ha σ H _ _ (fun x H0 z0 => ⟨z0.1, ht σ H0 _ _ (fun vs H1 z1 => hs _ _ _ _ _ _ (fun c d H => hE c d H) (fun v H q => hQ _ _ q) z1) z0.2⟩) z
theorem mono_MeS {C : Addr} {m : Str} {sp : Sp} {ta : TE} {t : TA} (hs : SpMono sp) (ha : MTE ta) (ht : MTA t) : ∀ σ : L2.St, MonoL fun E H' Q' => tMethS C m sp (WE fun cls d _ H => E cls d H) ta t σ H' Q' :=
  fun σ E1 E2 H Q1 Q2 hE hQ z => ha σ H _ _ (fun x H0 ⟨a, dx, fs, e1, e2, e3, z0⟩ => ⟨a, dx, fs, e1, e2, e3, ht σ H0 _ _ (fun vs H1 z1 => hs _ _ _ _ _ _ (fun c d H => hE c d H) (fun v H q => hQ _ _ q) z1) z0⟩) z
end OB
/-! Steps of a walk, made short. -/
namespace OB
open PySem PySem.Spec PyProof.Rows L2 LamX
section
variable {x y : V} {i j : Int} {H : Hp} {Q : VK}
theorem st_i0 {g : Int → Int → V} {v : V} (ex : x = .int i) (ey : y = .int j) (ev : g i j = v) (k : Q v H) : rI0 g x y H Q := by
  subst ev
  exact ⟨i, j, ex, ey, k⟩
theorem st_i {C : Int → Int → Prop} {g : Int → Int → V} {v : V} (ex : x = .int i) (ey : y = .int j) (hc : C i j) (ev : g i j = v) (k : Q v H) : rI C g x y H Q := by
  subst ev
  exact ⟨i, j, ex, ey, hc, k⟩
end
theorem st_tC {v : V} {σ : L2.St} {H : Hp} {Q : VK} (k : Q v H) : tC v σ H Q := k
theorem st_tOp {r : R2} {a b : TE} {σ : L2.St} {H : Hp} {Q : VK} (k : a σ H fun x H1 => b σ H1 fun y H2 => r x y H2 Q) : tOp r a b σ H Q := k
theorem ixN_of {n j : Nat} (hj : j < n) : ixN n (j : Int) = some j := by
  unfold ixN
  rw [if_pos (by omega), if_pos (by omega)]
  simp
end OB
namespace K12
open PySem PySem.Spec PyProof.Rows L2 OB SkE
theorem iteT' {b : Bool} {A B : Prop} (h : b = true) (a : A) : if b = true then A else B := by rw [if_pos h]; exact a
theorem iteF' {b : Bool} {A B : Prop} (h : b = false) (a : B) : if b = true then A else B := by rw [if_neg (by rw [h]; decide)]; exact a
/-- a value that is no text -/
def NotS (K : PySem.W.Frag) (H : Hp) (x : V) : Prop := ∃ t, TyX K H x t ∧ PySem.W.kitOne K t (.type "str") = some false
def Raises2 (C : Addr) (ln it : Int) (E : XK) (H : Hp) : Prop := ∀ d, H d = none → E (.ref C) (some d) (upd H d (.xd [(("item" : Str), .int it), (("line" : Str), .int ln)]))
def spItems (K : PySem.W.Frag) (CT : Addr) : Sp := fun vs H Q E => ∃ x : V, vs = [x] ∧ ((NotS K H x ∧ Raises2 CT 0 0 E H) ∨ ∃ z : Str, x = .str z ∧ z.length + 2 ≤ sizeLine ∧ ∀ p, H p = none → Q (.ref p) (upd H p (.lst ((Txt.split z " ").map V.str))))
def oI : Option Int → V
  | none => .non
  | some v => .int v
def spIntOf : Sp := fun vs H Q _ => ∃ z : Str, vs = [.str z] ∧ z.length ≤ 1000000 ∧ Q (oI (MT.intOf z)) H
def spItemAt (CT : Addr) : Sp := fun vs H Q E => ∃ (q : Addr) (ys : List Str) (i : Nat), vs = [.ref q, .int (i : Int)] ∧ H q = some (.lst (ys.map V.str)) ∧ (∀ y, ys[i]? = some y → Q (.str y) H) ∧ (ys[i]? = none → Raises2 CT 0 (ys.length : Int) E H)
def spIntAt (CT : Addr) : Sp := fun vs H Q E => ∃ (q : Addr) (ys : List Str) (i : Nat) (lo hi : Int), vs = [.ref q, .int (i : Int), .int lo, .int hi] ∧ H q = some (.lst (ys.map V.str)) ∧ (∀ y ∈ ys, y.length ≤ 1000000) ∧ 0 ≤ lo ∧
  (∀ y (n : Nat), ys[i]? = some y → MN.num y = some n → lo ≤ (n : Int) → (n : Int) ≤ hi → Q (.int (n : Int)) H) ∧ (∀ y, ys[i]? = some y → MN.inR y lo hi = false → Raises2 CT 0 (i : Int) E H) ∧ (ys[i]? = none → Raises2 CT 0 (ys.length : Int) E H)
def spNeedEnd (CT : Addr) : Sp := fun vs H Q E => ∃ (q : Addr) (ys : List Str) (i : Nat), vs = [.ref q, .int (i : Int)] ∧ H q = some (.lst (ys.map V.str)) ∧ (ys.length ≤ i → Q .non H) ∧ (i < ys.length → Raises2 CT 0 (i : Int) E H)
theorem tyS {K : PySem.W.Frag} {H : Hp} {z : Str} : tyV K "str" (.str z) H := rfl
section
variable {P : Program} {w : World} {K : PySem.W.Frag} {mg : Str → Option Value} {base : Heap}
theorem sc_items_of : FnScope ["text"] ["text"] (defScope s_items_of) := ⟨rfl, rfl, rfl, by decide +kernel, rfl, by decide +kernel, by decide +kernel⟩
abbrev N_items_of : List Str := ["text"]
theorem ok_items_of {f CT fT : Addr} {fd fdT : FuncData} (F : Fun K "items_of" "items_of" s_items_of f fd) (T : Blt mg) (R_BadText : Err2 P w K mg base "BadText" "line" "item" CT fT fdT) : FnOk P w K mg base (L2.CX P w) 3 f fd ["text"] (spItems K CT) := by
  refine F.okX sc_items_of (fun vs H Q E h => ?_) (fun cdv A outer s H vs Q E hr h => ?_)
  · obtain ⟨x, rfl, _⟩ := h
    rfl
  · obtain ⟨x, rfl, h⟩ := h
    refine ⟨_, (pss_cons (ps_if (pt_not (pt_val (pe_callB call_isi (by rfl) T.n_isinstance (by decide +kernel) (pa_cons (pv 0) (pa_cons (pe_bltn (v := .ty "str") (by rfl) T.n_str (by decide +kernel) rfl) pa_nil))))) (pss_one (ps_raise2 rfl (takes_of rfl rfl rfl rfl) R_BadText (hr.mono (by decide)) (by rfl) pe_int pe_int)) pss_nil)
  (pss_one (ps_ret (pe_split (pv 0) pe_str)))), ?_⟩
    rcases h with ⟨⟨t, ty, ht⟩, k⟩ | ⟨z, rfl, hz, k⟩
    · refine ⟨_, rfl, _, .ty "str", t, .type "str", false, rfl, .ty _, ty, ht, false, rfl, iteT ?_⟩
      exact raise2_of (σ := []) (W := fun cls d _ H => E cls d H) R_BadText.T R_BadText.no R_BadText.no2 k
    · refine ⟨_, rfl, _, .ty "str", .type "str", .type "str", true, rfl, .ty _, .base (.str z), kit_ty (by decide +kernel), true, rfl, ?_⟩
      refine iteF ?_
      exact ⟨_, rfl, ⟨_, rfl⟩, z, " ", rfl, rfl, by decide +kernel, hz, k⟩
theorem sc_integer_of : FnScope ["item", "digits"] ["item"] (defScope s_integer_of) := ⟨rfl, rfl, rfl, by decide +kernel, rfl, by decide +kernel, by decide +kernel⟩
abbrev N_integer_of : List Str := ["item", "digits"]
theorem ok_integer_of {f : Addr} {fd : FuncData} (F : Fun K "integer_of" "integer_of" s_integer_of f fd) (T : Blt mg) : FnOk P w K mg base CX0 1 f fd ["item"] spIntOf := by
  obtain ⟨tD, gD⟩ := T.g_MOST_DIGITS
  refine F.ok sc_integer_of (fun vs H Q E h => ?_) (fun cdv A outer s H vs Q E hr h => ?_)
  · obtain ⟨z, rfl, _⟩ := h
    rfl
  · obtain ⟨z, rfl, hz, k⟩ := h
    refine ⟨_, (pss_cons (ps_set (i := 1) sc_integer_of.nd rfl (Or.inl rfl) (pe_bm PySem.F.plainAttrs_str PySem.F.slot_str_removeprefix PySem.F.type_str_removeprefix mt_removeprefix (pv 0) (pa_cons pe_str pa_nil)))
  (pss_cons (ps_if (PW.pt (pw_or (pt_not (PW.pt (pw_and (pt_val (pe_bm0 PySem.F.plainAttrs_str PySem.F.slot_str_isascii PySem.F.type_str_isascii mt_isascii (pv 1))) (pw_and1 (pt_val (pe_bm0 PySem.F.plainAttrs_str PySem.F.slot_str_isdigit PySem.F.type_str_isdigit mt_isdigit (pv 1))))))) (pw_or1 (pt_cmpR op_gt (pe_callB call_len_str (by rfl) T.n_len (by decide +kernel) (pa_cons (pv 1) pa_nil)) (pe_glob (v := .int 140) rfl T.g_MOST_DIGITS.choose_spec ⟨_, rfl⟩) (nomark _))))) (pss_one (ps_ret pe_non)) pss_nil)
  (pss_cons (ps_if (PW.pt (pw_and (pt_val (pe_bm PySem.F.plainAttrs_str PySem.F.slot_str_startswith PySem.F.type_str_startswith mt_startswith (pv 1) (pa_cons pe_str pa_nil))) (pw_and1 (pt_cmpR op_ne (pv 0) pe_str (nomark _))))) (pss_one (ps_ret pe_non)) pss_nil)
  (pss_one (ps_ret (pe_callTy call_int_str (by rfl) T.n_int (by decide +kernel) (pa_cons (pv 0) pa_nil))))))), ?_⟩
    obtain ⟨y, hy⟩ : ∃ y, Txt.removeprefix z "-" = y := ⟨_, rfl⟩
    have ey : MT.cs y = MT.behind (MT.cs z) := by rw [← hy]; exact MT.drop_minus z
    have yl : y.length ≤ z.length := by
      rw [← MT.len_cs, ← MT.len_cs, ey]
      unfold MT.behind
      split
      · rename_i e
        rw [e]
        exact Nat.le_succ _
      · exact Nat.le_refl _
    have hz1 : z.length ≤ sizeLine := by rw [sizeLine_eq]; omega
    have hy1 : y.length ≤ sizeLine := by omega
    refine ⟨_, rfl, tyS, _, _, rfl, rfl, hz1, ?_⟩
    rw [hy]
    have hb : (Txt.isascii y && Txt.isdigit y) = MT.digs (MT.behind (MT.cs z)) := by rw [MT.digit_iff, ey]
    have no : MT.intOf z = none → Q .non H := fun e => by
      rw [e] at k
      exact k
    have none1 : ¬ MT.digs (MT.behind (MT.cs z)) = true → MT.intOf z = none := fun c => by
      unfold MT.intOf
      exact if_neg fun e => c e.1
    refine ⟨_, rfl, tyS, _, rfl, rfl, trivial, ?_⟩
    by_cases D : MT.digs (MT.behind (MT.cs z)) = true
    · rw [D, Bool.and_eq_true] at hb
      rw [hb.1]
      refine ⟨true, rfl, iteT ?_⟩
      refine ⟨_, rfl, tyS, _, rfl, rfl, trivial, ?_⟩
      rw [hb.2]
      refine ⟨true, rfl, iteF ?_⟩
      refine ⟨_, rfl, _, rfl, hy1, _, _, rfl, rfl, _, rfl, ?_⟩
      have yd : y.length = (MT.behind (MT.cs z)).length := by rw [← ey, MT.len_cs]
      refine ite2 (fun c => ?_) (fun c => ?_)
      · rw [decide_eq_true_iff] at c
        exact no (if_neg fun e => by omega)
      · rw [decide_eq_true_iff] at c
        have zl : z.length ≤ 141 := by
          rw [← MT.len_cs] at *
          unfold MT.behind at yd
          split at yd
          · rename_i e
            rw [e, List.length_cons]
            omega
          · omega
        have fin : ((MT.behind (MT.cs z)).head? = some 48 → z = "0") → tRet (tCB (fun xs H Q => ∃ a n, xs = [V.str a] ∧ intText? a = some n ∧ a.length ≤ 640 ∧ Q (V.int n) H) (tCons (tVar 0) tNil)) { nx := fun x H' => Q V.non H', rt := Q } [some (.str z), some (.str y)] H := fun h3 => by
          obtain ⟨v, e1, e2⟩ := MN.int_ok D (by omega) h3 (by omega)
          rw [e1] at k
          exact ⟨_, rfl, _, _, rfl, e2, by omega, k⟩
        refine ⟨_, rfl, tyS, _, _, rfl, rfl, ?_⟩
        rw [MT.starts_zero, ey]
        refine ⟨_, rfl, iteB (fun c => ?_) (fun c => fin fun h => absurd (decide_eq_true h) (by rw [c]; decide))⟩
        refine ⟨_, rfl, rfl, _, rfl, ?_⟩
        by_cases e0 : z = "0"
        · refine iteF' (by rw [e0]; decide) (fin fun _ => e0)
        · refine iteT' (by rw [decide_eq_false (fun h => e0 (V.str.inj h))]; rfl) (no (if_neg fun e => e0 (e.2.2 (of_decide_eq_true c))))
    · have hd : (Txt.isascii y && Txt.isdigit y) = false := by
        rw [hb]
        exact Bool.not_eq_true _ ▸ D
      have out := no (none1 D)
      cases ea : Txt.isascii y with
      | false => exact ⟨false, rfl, iteF (iteT (iteT out))⟩
      | true =>
        rw [ea, Bool.true_and] at hd
        refine ⟨true, rfl, iteT ?_⟩
        refine ⟨_, rfl, tyS, _, rfl, rfl, trivial, ?_⟩
        rw [hd]
        exact ⟨false, rfl, iteT (iteT out)⟩
theorem sc_item_at : FnScope ["items", "at"] ["items", "at"] (defScope s_item_at) := ⟨rfl, rfl, rfl, by decide +kernel, rfl, by decide +kernel, by decide +kernel⟩
abbrev N_item_at : List Str := ["items", "at"]
theorem ok_item_at {f CT fT : Addr} {fd fdT : FuncData} (F : Fun K "item_at" "item_at" s_item_at f fd) (T : Blt mg) (R_BadText : Err2 P w K mg base "BadText" "line" "item" CT fT fdT) : FnOk P w K mg base (L2.CX P w) 3 f fd ["items", "at"] (spItemAt CT) := by
  refine F.okX sc_item_at (fun vs H Q E h => ?_) (fun cdv A outer s H vs Q E hr h => ?_)
  · obtain ⟨q, ys, i, rfl, _⟩ := h
    rfl
  · obtain ⟨q, ys, i, rfl, hq, k1, k2⟩ := h
    refine ⟨_, (pss_cons (ps_if (pt_cmpR op_ge (pv 1) (pe_callB call_len_seq (by rfl) T.n_len (by decide +kernel) (pa_cons (pv 0) pa_nil)) (nomark _)) (pss_one (ps_raise2 rfl (takes_of rfl rfl rfl rfl) R_BadText (hr.mono (by decide)) (by rfl) pe_int (pe_callB call_len_seq (by rfl) T.n_len (by decide +kernel) (pa_cons (pv 0) pa_nil)))) pss_nil)
  (pss_one (ps_ret (pe_ix ix_list (pv 0) (pv 1) (fun _ _ => rfl))))), ?_⟩
    refine ⟨_, rfl, _, rfl, q, _, rfl, .inl (SqL.of hq), _, _, rfl, rfl, _, rfl, ?_⟩
    refine ite2 (fun c => ?_) (fun c => ?_)
    · rw [List.length_map] at c
      refine ⟨_, rfl, q, _, rfl, .inl (SqL.of hq), ?_⟩
      rw [List.length_map]
      exact raise2_of (σ := []) (W := fun cls d _ H => E cls d H) R_BadText.T R_BadText.no R_BadText.no2 (k2 (List.getElem?_eq_none (by have := of_decide_eq_true c; omega)))
    · rw [List.length_map] at c
      have hi : i < ys.length := by rw [decide_eq_true_iff] at c; omega
      refine ⟨_, rfl, _, rfl, q, _, _, V.str ys[i], rfl, rfl, SqL.of hq, atI_nat (by rw [List.getElem?_map, List.getElem?_eq_getElem hi]; rfl), k1 _ (List.getElem?_eq_getElem hi)⟩
theorem sc_integer_at : FnScope ["items", "at", "least", "most", "value"] ["items", "at", "least", "most"] (defScope s_integer_at) := ⟨rfl, rfl, rfl, by decide +kernel, rfl, by decide +kernel, by decide +kernel⟩
abbrev N_integer_at : List Str := ["items", "at", "least", "most", "value"]
theorem ok_integer_at {f f1 f2 f3 f4 CT fT : Addr} {fd fd1 fd2 fd3 fd4 fdT : FuncData} (F : Fun K "integer_at" "integer_at" s_integer_at f fd) (T : Blt mg) (D_integer_of : Df K mg "integer_of" s_integer_of ["item"] f1 fd1) (D_item_at : Df K mg "item_at" s_item_at ["items", "at"] f2 fd2) (D_is_within : Df K mg "is_within" s_is_within ["value", "least", "most"] f3 fd3) (D_is_integer : Df K mg "is_integer" s_is_integer ["value"] f4 fd4) (R_BadText : Err2 P w K mg base "BadText" "line" "item" CT fT fdT) : FnOk P w K mg base (L2.CX P w) 5 f fd ["items", "at", "least", "most"] (spIntAt CT) := by
  have G_integer_of : FnOk P w K mg base CX0 1 f1 fd1 ["item"] spIntOf := ok_integer_of D_integer_of.F T
  have G_item_at : FnOk P w K mg base (L2.CX P w) 3 f2 fd2 ["items", "at"] (spItemAt CT) := ok_item_at D_item_at.F T R_BadText
  have G_is_within : FnOk P w K mg base CX0 2 f3 fd3 ["value", "least", "most"] (spWithin K) := ok_is_within D_is_within.F D_is_integer T
  refine F.okX sc_integer_at (fun vs H Q E h => ?_) (fun cdv A outer s H vs Q E hr h => ?_)
  · obtain ⟨q, ys, i, lo, hi, rfl, _⟩ := h
    rfl
  · obtain ⟨q, ys, i, lo, hi, rfl, hq, hL, h0, k1, k2, k3⟩ := h
    refine ⟨_, (pss_cons (ps_set (i := 4) sc_integer_at.nd rfl (Or.inl rfl) (pe_call G_integer_of (hr.mono (by decide)) (by rfl) D_integer_of.g D_integer_of.F.kp D_integer_of.b .nil pass0 (pa_cons (pe_callS G_item_at (hr.mono (by decide)) (by rfl) D_item_at.g D_item_at.F.kp D_item_at.b (fun σ => passAt (takes_of rfl rfl rfl rfl) σ) (pa_cons (pv 0) (pa_cons (pv 1) pa_nil))) pa_nil)))
  (pss_cons (ps_if (pt_not (pt_val (pe_call G_is_within (hr.mono (by decide)) (by rfl) D_is_within.g D_is_within.F.kp D_is_within.b .nil pass0 (pa_cons (pv 4) (pa_cons (pv 2) (pa_cons (pv 3) pa_nil)))))) (pss_one (ps_raise2 rfl (takes_of rfl rfl rfl rfl) R_BadText (hr.mono (by decide)) (by rfl) pe_int (pv 1))) pss_nil)
  (pss_one (ps_ret (pv 4))))), ?_⟩
    refine ⟨_, rfl, _, rfl, q, ys, i, rfl, hq, fun y hy => ?_, fun hn => k3 hn⟩
    refine ⟨y, rfl, hL y (List.mem_of_getElem? hy), ?_⟩
    have bad : MN.inR y lo hi = false → ∀ r : Ends, tRaise2 K CT "line" "item" (fun cls d x H => E cls d H) (tC (V.int 0)) (tVar 1) r (List.set (L2.start ["items", "at", "least", "most", "value"] [V.ref q, V.int ↑i, V.int lo, V.int hi]) 4 (some (oI (MT.intOf y)))) H := fun c r => by
      refine ⟨_, rfl, ?_⟩
      exact raise2_of (σ := []) (W := fun cls d _ H => E cls d H) R_BadText.T R_BadText.no R_BadText.no2 (k2 y hy c)
    have eq := MN.int_num (s := y) (hi := hi) h0
    cases e : MT.intOf y with
    | none =>
      rw [e] at eq bad
      refine ⟨_, rfl, _, rfl, _, rfl, _, some lo, some hi, false, rfl, isI_non, _, rfl, ?_⟩
      exact iteT (bad eq.symm _)
    | some v =>
      rw [e] at eq bad
      refine ⟨_, rfl, _, rfl, _, rfl, _, some lo, some hi, true, rfl, isI_int _, _, rfl, ?_⟩
      have eq2 : (true && inB (some lo) (some hi) (oI (some v))) = MN.inR y lo hi := eq
      rw [eq2]
      cases c : MN.inR y lo hi with
      | false => exact iteT (bad c _)
      | true =>
        obtain ⟨n, _, hn, h1, h2⟩ := MN.inR_ex c
        have : v = (n : Int) := Option.some.inj (e.symm.trans (MN.int_of_num hn))
        subst this
        exact iteF ⟨_, rfl, k1 y n hy hn h1 h2⟩
theorem sc_need_end : FnScope ["items", "at"] ["items", "at"] (defScope s_need_end) := ⟨rfl, rfl, rfl, by decide +kernel, rfl, by decide +kernel, by decide +kernel⟩
abbrev N_need_end : List Str := ["items", "at"]
theorem ok_need_end {f CT fT : Addr} {fd fdT : FuncData} (F : Fun K "need_end" "need_end" s_need_end f fd) (T : Blt mg) (R_BadText : Err2 P w K mg base "BadText" "line" "item" CT fT fdT) : FnOk P w K mg base (L2.CX P w) 3 f fd ["items", "at"] (spNeedEnd CT) := by
  refine F.okX sc_need_end (fun vs H Q E h => ?_) (fun cdv A outer s H vs Q E hr h => ?_)
  · obtain ⟨q, ys, i, rfl, _⟩ := h
    rfl
  · obtain ⟨q, ys, i, rfl, hq, k1, k2⟩ := h
    refine ⟨_, (pss_one (ps_if (pt_cmpR op_lt (pv 1) (pe_callB call_len_seq (by rfl) T.n_len (by decide +kernel) (pa_cons (pv 0) pa_nil)) (nomark _)) (pss_one (ps_raise2 rfl (takes_of rfl rfl rfl rfl) R_BadText (hr.mono (by decide)) (by rfl) pe_int (pv 1))) pss_nil)), ?_⟩
    refine ⟨_, rfl, _, rfl, q, _, rfl, .inl (SqL.of hq), _, _, rfl, rfl, _, rfl, ?_⟩
    refine ite2 (fun c => ?_) (fun c => ?_)
    · rw [List.length_map] at c
      refine ⟨_, rfl, ?_⟩
      exact raise2_of (σ := []) (W := fun cls d _ H => E cls d H) R_BadText.T R_BadText.no R_BadText.no2 (k2 (by have := of_decide_eq_true c; omega))
    · rw [List.length_map] at c
      exact k1 (by rw [decide_eq_true_iff] at c; omega)
end
end K12
namespace K12
open PySem PySem.Spec PyProof.Rows L2 OB SkE
theorem in_bounds {lo hi i : Int} (h1 : lo ≤ i) (h2 : i ≤ hi) : (true && inB (some lo) (some hi) (.int i)) = true := by
  show (true && (decide (lo ≤ i) && decide (i ≤ hi))) = true
  rw [decide_eq_true h1, decide_eq_true h2]
  rfl
/-- what a word means, as a value -/
def mv : Option Nat → V
  | none => .non
  | some n => .int (n : Int)
/-- .. as an item of a text -/
def mtx : Option Nat → Str
  | none => "-"
  | some n => ds n
/-- .. as data -/
def md : Option Nat → PyData
  | none => .none
  | some n => .int (n : Int)
def layText (b : Nat) (ms : List (Option Nat)) : Str := Txt.join " " (ds b :: ms.map mtx)
structure LayOk (b : Nat) (ms : List (Option Nat)) : Prop where
  b1 : 1 ≤ b
  b8 : b ≤ 8
  len : ms.length = 2 ^ b
  small : ∀ n, some n ∈ ms → n ≤ 63
theorem pow8 {b : Nat} (h : b ≤ 8) : 2 ^ b ≤ 256 := Nat.le_trans (Nat.pow_le_pow_right (by decide) h) (by decide)
/-- a layout stands at x -/
def IsLay (H : Hp) (C x : Addr) (b : Nat) (ms : List (Option Nat)) : Prop := ∃ dx fs t, H x = some (.ins C dx fs) ∧ fs.lookup ("bits" : Str) = some (.int (b : Int)) ∧ fs.lookup ("means" : Str) = some (.ref t) ∧ H t = some (.tup (ms.map mv))
theorem IsLay.same {H H' : Hp} {C x : Addr} {b : Nat} {ms : List (Option Nat)} (h : IsLay H C x b ms) (s : Same H H') : IsLay H' C x b ms := by
  obtain ⟨dx, fs, t, h1, h2, h3, h4⟩ := h
  exact ⟨dx, fs, t, s _ _ h1, h2, h3, s _ _ h4⟩
theorem dp_means {K : PySem.W.Frag} {H : Hp} : ∀ ms : List (Option Nat), DpAll K H (ms.map mv) (ms.map md)
  | [] => .nil
  | none :: r => .cons .non (dp_means r)
  | some n :: r => .cons (.int n) (dp_means r)
theorem flat_means : ∀ ms : List (Option Nat), PyData.canLayAll0 (ms.map md) = true ∧ PyData.depthAll (ms.map md) ≤ 1
  | [] => by simp [PyData.canLayAll0, PyData.depthAll]
  | m :: r => by
    obtain ⟨h1, h2⟩ := flat_means r
    cases m <;> simp [md, PyData.canLayAll0, PyData.canLay0, PyData.depthAll, PyData.depth, h1] <;> omega
theorem shaped_means (ms : List (Option Nat)) : SeqAt.shaped (.tuple (ms.map md)) = true := by
  obtain ⟨h1, h2⟩ := flat_means ms
  unfold SeqAt.shaped
  rw [Bool.and_eq_true]
  refine ⟨by simp [PyData.canLay0, h1], decide_eq_true ?_⟩
  simp [PyData.depth]
  omega
theorem eqv_means : ∀ ms ns : List (Option Nat), PyData.eqvAll (ms.map md) (ns.map md) = decide (ms = ns)
  | [], [] => by simp [PyData.eqvAll]
  | [], _ :: _ => by simp [PyData.eqvAll]
  | _ :: _, [] => by simp [PyData.eqvAll]
  | m :: r, n :: s => by
    have ih := eqv_means r s
    have h : PyData.eqv (md m) (md n) = decide (m = n) := by
      cases m with
      | none => cases n <;> simp [md, PyData.eqv]
      | some a =>
        cases n with
        | none => simp [md, PyData.eqv]
        | some c =>
          show ((a : Int) == (c : Int)) = decide (some a = some c)
          by_cases z : a = c
          · simp [z]
          · rw [decide_eq_false (by simpa using z)]
            exact beq_false_of_ne (by omega)
    simp only [List.map_cons, PyData.eqvAll, ih, h, List.cons.injEq]
    by_cases h1 : m = n <;> by_cases h2 : r = s <;> simp [h1, h2]
theorem eqv_tup (ms ns : List (Option Nat)) : PyData.eqv (.tuple (ms.map md)) (.tuple (ns.map md)) = decide (ms = ns) := by
  rw [← eqv_means]
  simp [PyData.eqv]
def spLayInit (C : Addr) : Sp := fun vs H Q _ => ∃ (p dx q : Addr) (b : Nat) (ms : List (Option Nat)), vs = [.ref p, .int (b : Int), .ref q] ∧ LayOk b ms ∧ (H q = some (.lst (ms.map mv)) ∨ H q = some (.tup (ms.map mv))) ∧ H p = some (.ins C dx []) ∧
  ∀ H', IsLay H' C p b ms → (∀ a o, H a = some o → a ≠ p → H' a = some o) → Q .non H'
def spLayEq (K : PySem.W.Frag) (C : Addr) : Sp := fun vs H Q _ => ∃ (x : Addr) (y : V) (b : Nat) (ms : List (Option Nat)), vs = [.ref x, y] ∧ IsLay H C x b ms ∧
  ((∃ y' b' ns, y = .ref y' ∧ IsLay H C y' b' ns ∧ Q (.bl (decide (b = b' ∧ ms = ns))) H) ∨ (NotO K C H y ∧ Q (.bl false) H))
def spLayStr (C : Addr) : Sp := fun vs H Q _ => ∃ (x : Addr) (b : Nat) (ms : List (Option Nat)), vs = [.ref x] ∧ IsLay H C x b ms ∧ LayOk b ms ∧ ∀ H', Same H H' → Q (.str (layText b ms)) H'
def spLayRead (C : Addr) : Sp := fun vs H Q _ => ∃ (b : Nat) (ms : List (Option Nat)), vs = [.str (layText b ms)] ∧ LayOk b ms ∧ ∀ x H', H x = none → Same H H' → IsLay H' C x b ms → Q (.ref x) H'
def spIsMean (K : PySem.W.Frag) : Sp := fun vs H Q _ => ∃ (x : V) (b : Bool), vs = [x] ∧ IsI K H x b ∧ Q (.bl (decide (x = .non) || (b && inB (some 0) (some 63) x))) H
def spMeanAt : Sp := fun vs H Q _ => ∃ (q : Addr) (ys : List Str) (i : Nat) (m : Option Nat), vs = [.ref q, .int (i : Int)] ∧ H q = some (.lst (ys.map V.str)) ∧ ys[i]? = some (mtx m) ∧ (∀ n, m = some n → n ≤ 63) ∧ Q (mv m) H
/-- a layout is made: what __init__ is asked -/
theorem make_lay {C x dx D : Addr} {b : Nat} {ms : List (Option Nat)} {H1 : Hp} {R : Hp → Prop} {E : XK} (ok : LayOk b ms) (hD : H1 D = some (.lst (ms.map mv)) ∨ H1 D = some (.tup (ms.map mv))) (nx : H1 x = none) (ndx : H1 dx = none)
    (k : ∀ H3, Same H1 H3 → IsLay H3 C x b ms → R H3) : spLayInit C [.ref x, .int (b : Int), .ref D] (upd (upd H1 dx (.own x)) x (.ins C dx [])) (fun v H2 => v = .non ∧ R H2) E := by
  have old : ∀ a o, H1 a = some o → (upd (upd H1 dx (.own x)) x (.ins C dx [])) a = some o := fun a o e => by
    rw [upd_ne (ne_of_none e nx), upd_ne (ne_of_none e ndx)]
    exact e
  exact ⟨x, dx, D, b, ms, rfl, ok, hD.elim (fun h => .inl (old _ _ h)) (fun h => .inr (old _ _ h)), upd_same, fun H3 hl keep => ⟨rfl, k H3 (fun a o e => keep a o (old a o e) (ne_of_none e nx)) hl⟩⟩
theorem IsLay.but {H H' : Hp} {C x p : Addr} {b : Nat} {ms : List (Option Nat)} {xs : List V} (h : IsLay H C x b ms) (s : But p H H') (hp : H p = some (.lst xs)) : IsLay H' C x b ms := by
  obtain ⟨dx, fs, t, h1, h2, h3, h4⟩ := h
  exact ⟨dx, fs, t, s _ _ h1 (ne_of h1 hp (by intro z; cases z)), h2, h3, s _ _ h4 (ne_of h4 hp (by intro z; cases z))⟩
theorem ne_lay {K : PySem.W.Frag} {C x y : Addr} {b b' : Nat} {ms ns : List (Option Nat)} {H : Hp} {Q : VK} {E : XK} (hx : IsLay H C x b ms) (hy : IsLay H C y b' ns) (k : Q (.bl (!decide (b = b' ∧ ms = ns))) H) : rNeO K C (spLayEq K C) E (.ref x) (.ref y) H Q := by
  obtain ⟨dx, fs, t, h1, _⟩ := id hx
  obtain ⟨dy, gs, u, g1, _⟩ := id hy
  exact ⟨x, dx, fs, rfl, h1, .inl ⟨y, dy, gs, rfl, g1⟩, x, .ref y, b, ms, rfl, hx, .inl ⟨y, b', ns, rfl, hy, _, rfl, k⟩⟩
theorem eq_lay {K : PySem.W.Frag} {C x y : Addr} {b b' : Nat} {ms ns : List (Option Nat)} {H : Hp} {Q : VK} {E : XK} (hx : IsLay H C x b ms) (hy : IsLay H C y b' ns) (k : Q (.bl (decide (b = b' ∧ ms = ns))) H) : rEqO K C (spLayEq K C) E (.ref x) (.ref y) H Q := by
  obtain ⟨dx, fs, t, h1, _⟩ := id hx
  obtain ⟨dy, gs, u, g1, _⟩ := id hy
  exact ⟨x, dx, fs, rfl, h1, .inl ⟨y, dy, gs, rfl, g1⟩, x, .ref y, b, ms, rfl, hx, .inl ⟨y, b', ns, rfl, hy, _, rfl, k⟩⟩
theorem ne_same {b : Nat} {ms : List (Option Nat)} : (!decide (b = b ∧ ms = ms)) = false := by simp
section
variable {P : Program} {w : World} {K : PySem.W.Frag} {mg : Str → Option Value} {base : Heap}
/-- whatever is laid anew, it is a list or a tuple, or none -/
def EvL (K : PySem.W.Frag) (H : Hp) (x : V) (b : Bool) : Prop := ∀ H', Same H H' → IsL K H' x b
def EvI (K : PySem.W.Frag) (H : Hp) (x : V) (b : Bool) : Prop := ∀ H', Same H H' → IsI K H' x b
def spIsList (K : PySem.W.Frag) : Sp := fun vs H Q _ => ∃ (x : V) (b : Bool), vs = [x] ∧ EvL K H x b ∧ ∀ H', Same H H' → Q (.bl b) H'
theorem sc_is_list : FnScope ["value"] ["value"] (defScope s_is_list) := ⟨rfl, rfl, rfl, by decide +kernel, rfl, by decide +kernel, by decide +kernel⟩
theorem ok_is_list {f : Addr} {fd : FuncData} (F : Fun K "is_list" "is_list" s_is_list f fd) (T : Blt mg) : FnOk P w K mg base CX0 1 f fd ["value"] (spIsList K) := by
  refine F.ok sc_is_list (fun vs H Q E h => ?_) (fun cdv A outer s H vs Q E hr h => ?_)
  · obtain ⟨x, b, rfl, _⟩ := h
    rfl
  · obtain ⟨x, b, rfl, hL, k⟩ := h
    refine ⟨_, (pss_one (ps_ret (pe_callB call_isiT (by rfl) T.n_isinstance (by decide +kernel) (pa_cons (pv 0) (pa_cons (pe_tup (pa_cons (pe_bltn (v := .ty "list") (by rfl) T.n_list (by decide +kernel) rfl) (pa_cons (pe_bltn (v := .ty "tuple") (by rfl) T.n_tuple (by decide +kernel) rfl) pa_nil))) pa_nil))))), ?_⟩
    refine ⟨_, rfl, (by show 2 ≤ sizeLine; decide), fun t ht => ?_⟩
    have S := same_new (o := .tup [.ty "list", .ty "tuple"]) ht
    obtain ⟨ty, hty, hk⟩ := isL_any (hL _ S)
    exact ⟨_, t, _, ty, _, b, rfl, upd_same, .cons (.ty _) (.cons (.ty _) .nil), hty, hk, k _ S⟩
theorem sc__is_meaning : FnScope ["value"] ["value"] (defScope s__is_meaning) := ⟨rfl, rfl, rfl, by decide +kernel, rfl, by decide +kernel, by decide +kernel⟩
abbrev N__is_meaning : List Str := ["value"]
theorem ok__is_meaning {f f1 f2 : Addr} {fd fd1 fd2 : FuncData} (F : Fun K "_is_meaning" "_is_meaning" s__is_meaning f fd) (T : Blt mg) (D_is_within : Df K mg "is_within" s_is_within ["value", "least", "most"] f1 fd1) (D_is_integer : Df K mg "is_integer" s_is_integer ["value"] f2 fd2) : FnOk P w K mg base CX0 3 f fd ["value"] (spIsMean K) := by
  have G_is_within : FnOk P w K mg base CX0 2 f1 fd1 ["value", "least", "most"] (spWithin K) := ok_is_within D_is_within.F D_is_integer T
  refine F.ok sc__is_meaning (fun vs H Q E h => ?_) (fun cdv A outer s H vs Q E hr h => ?_)
  · obtain ⟨x, b, rfl, _⟩ := h
    rfl
  · obtain ⟨x, b, rfl, hI, k⟩ := h
    refine ⟨_, (pss_one (ps_ret (pe_or (pe_cmpR op_isN (pv 0) pe_non (nomark _)) (pe_one (pe_call G_is_within (hr.mono (by decide)) (by rfl) D_is_within.g D_is_within.F.kp D_is_within.b .nil pass0 (pa_cons (pv 0) (pa_cons pe_int (pa_cons (pe_glob (v := .int 63) rfl T.g_MOST_STATE.choose_spec ⟨_, rfl⟩) pa_nil)))))))), ?_⟩
    refine ⟨_, rfl, rfl, _, rfl, ?_⟩
    refine iteB (fun c => ?_) (fun c => ?_)
    · rw [c, Bool.true_or] at k
      exact k
    · rw [c, Bool.false_or] at k
      exact ⟨_, rfl, x, some 0, some 63, b, rfl, hI, k⟩
theorem sc_Layout_init : FnScope ["self", "bits", "means", "item"] ["self", "bits", "means"] (defScope s_Layout_init) := ⟨rfl, rfl, rfl, by decide +kernel, rfl, by decide +kernel, by decide +kernel⟩
abbrev N_Layout_init : List Str := ["self", "bits", "means", "item"]
theorem lay_all {K : PySem.W.Frag} {H : Hp} {b : Nat} {ms : List (Option Nat)} (ok : LayOk b ms) {i : Nat} {x : V} (h : (ms.map mv)[i]? = some x) : ∃ c, IsI K H x c ∧ (decide (x = .non) || (c && inB (some 0) (some 63) x)) = true := by
  rw [List.getElem?_map] at h
  cases e : ms[i]? with
  | none => rw [e] at h; cases h
  | some m =>
    rw [e] at h
    cases h
    cases m with
    | none => exact ⟨false, isI_non, by decide⟩
    | some n =>
      have := ok.small n (List.mem_of_getElem? e)
      refine ⟨true, isI_int _, ?_⟩
      show (decide (V.int (n : Int) = .non) || (true && inB (some 0) (some 63) (.int (n : Int)))) = true
      rw [in_bounds (by omega) (by omega), Bool.or_true]
theorem ok_Layout_init {f f1 f2 f3 f4 C : Addr} {fd fd1 fd2 fd3 fd4 : FuncData} (F : Fun K "__init__" "Layout.__init__" s_Layout_init f fd) (T : Blt mg) (O_Layout : OwnC K mg "Layout" C f) (n1 : NoAttr K C "bits") (n2 : NoAttr K C "means") (D_is_within : Df K mg "is_within" s_is_within ["value", "least", "most"] f1 fd1) (D_is_integer : Df K mg "is_integer" s_is_integer ["value"] f2 fd2) (D_is_list : Df K mg "is_list" s_is_list ["value"] f3 fd3) (D__is_meaning : Df K mg "_is_meaning" s__is_meaning ["value"] f4 fd4) :
    FnOk P w K mg base CX0 4 f fd ["self", "bits", "means"] (spLayInit C) := by
  have G_is_within : FnOk P w K mg base CX0 2 f1 fd1 ["value", "least", "most"] (spWithin K) := ok_is_within D_is_within.F D_is_integer T
  have G_is_list : FnOk P w K mg base CX0 1 f3 fd3 ["value"] (spIsList K) := ok_is_list D_is_list.F T
  have G__is_meaning : FnOk P w K mg base CX0 3 f4 fd4 ["value"] (spIsMean K) := ok__is_meaning D__is_meaning.F T D_is_within D_is_integer
  refine F.ok sc_Layout_init (fun vs H Q E h => ?_) (fun cdv A outer s H vs Q E hr h => ?_)
  · obtain ⟨p, dx, q, b, ms, rfl, _⟩ := h
    rfl
  · obtain ⟨p, dx, q, b, ms, rfl, ok, hq, hp, k⟩ := h
    have b1 := ok.b1
    have b8 := ok.b8
    have hlen : (ms.map mv).length = 2 ^ b := by rw [List.length_map]; exact ok.len
    have p8 := pow8 b8
    refine ⟨_, (pss_cons (ps_if (pt_not (pt_val (pe_call G_is_within (hr.mono (by decide)) (by rfl) D_is_within.g D_is_within.F.kp D_is_within.b .nil pass0 (pa_cons (pv 1) (pa_cons pe_int (pa_cons (pe_glob (v := .int 8) rfl T.g_MOST_BITS.choose_spec ⟨_, rfl⟩) pa_nil)))))) (pss_one ps_never) pss_nil)
  (pss_cons (ps_if (PW.pt (pw_or (pt_not (pt_val (pe_call G_is_list (hr.mono (by decide)) (by rfl) D_is_list.g D_is_list.F.kp D_is_list.b .nil pass0 (pa_cons (pv 2) pa_nil)))) (pw_or (pt_cmpR op_ne (pe_callB call_len_seq (by rfl) T.n_len (by decide +kernel) (pa_cons (pv 2) pa_nil)) (pe_op op_oneN pe_int (pv 1)) (nomark _)) (pw_or1 (pt_not (pt_val (pe_callB (cr_all rfl) (by rfl) T.n_all (by decide +kernel) (pa_cons (pe_lc (own := [("item", 3)]) (g := (gName 3)) (tt := tYes) rfl sc_Layout_init.nd (pi_seqA (pv 2)) (blkOk_by (N := N_Layout_init) (own := [("item", 3)]) (sc := defScope s_Layout_init) (by decide +kernel)) (fun _ _ _ _ _ => (pg_name (i := 3) sc_Layout_init.nd rfl (Or.inl rfl))) (fun _ _ _ _ _ => pts_nil) (fun _ _ _ _ _ => (pe_call G__is_meaning (hr.mono (by decide)) (by rfl) D__is_meaning.g D__is_meaning.F.kp D__is_meaning.b .nil pass0 (pa_cons (pv 3) pa_nil)))) pa_nil)))))))) (pss_one ps_never) pss_nil)
  (pss_cons (ps_fld (pv 0) (pv 1) rfl)
  (pss_one (ps_fld (pv 0) (pe_callTy call_tuple_of (by rfl) T.n_tuple (by decide +kernel) (pa_cons (pv 2) pa_nil)) rfl))))), ?_⟩
    refine ⟨_, rfl, _, some 1, some 8, true, rfl, isI_int _, _, rfl, ?_⟩
    rw [in_bounds (show (1 : Int) ≤ (b : Int) by omega) (show (b : Int) ≤ 8 by omega)]
    refine iteF ?_
    have hL : EvL K H (.ref q) true := fun H' S => hq.elim (fun h => isL_lst (S _ _ h)) fun h => isL_tup (S _ _ h)
    refine ⟨_, rfl, _, true, rfl, hL, fun H1 S1 => ⟨_, rfl, iteF ?_⟩⟩
    have hq1 : SqL K H1 q (ms.map mv) ∨ SqT K H1 q (ms.map mv) := hq.elim (fun h => .inl (SqL.of (S1 _ _ h))) fun h => .inr (SqT.of (S1 _ _ h))
    refine ⟨_, rfl, q, _, rfl, hq1, _, rfl, b, rfl, rfl, by omega, rfl, _, rfl, ?_⟩
    rw [hlen]
    refine iteB (fun c => absurd c (by simp)) (fun _ => ?_)
    refine ⟨_, rfl, q, rfl, lc_seqA hq1 (fun D i H' => Same H1 H' ∧ H' D = some (.lst (List.replicate i (V.bl true)))) (fun D hD => ⟨same_new hD, upd_same⟩) (fun D i H' _ _ h => h.1) ?_ ?_⟩
    · rintro D i x H' hD hx ⟨S2, hl⟩
      obtain ⟨c, hI, e⟩ := lay_all (K := K) (H := H') ok hx
      have hi := (List.getElem?_eq_some_iff.mp hx).1
      refine ⟨rfl, _, rfl, x, c, rfl, hI, _, hl, by rw [List.length_replicate, sizeLine_eq]; omega, fun a o ea => ?_, ?_⟩
      · rw [upd_ne (ne_of_none ea hD)]
        exact S2 a o ea
      · rw [upd_same, e, List.replicate_succ']
    · rintro D H2 hD ⟨S2, hl⟩
      refine ⟨D, List.replicate (ms.map mv).length true, rfl, SqL.of (by rw [List.map_replicate]; exact hl), _, rfl, ?_⟩
      rw [show (List.replicate (ms.map mv).length true).all id = true by simp]
      refine iteF ?_
      have S := S1.trans S2
      refine ⟨_, rfl, _, rfl, p, C, dx, [], rfl, S _ _ hp, O_Layout.cl, n1, (by show 0 < 1000; decide), ?_⟩
      have npq : q ≠ p := by
        rcases hq with h | h
        · exact ne_of h hp (by intro z; cases z)
        · exact ne_of h hp (by intro z; cases z)
      have fin : ∀ (H3 : Hp) (t : Addr), (∀ a o, H a = some o → a ≠ p → H3 a = some o) → H3 t = some (.tup (ms.map mv)) → t ≠ p → Q .non (upd H3 p (.ins C dx (putF ("means" : Str) (.ref t) (putF ("bits" : Str) (.int (b : Int)) [])))) := fun H3 t keep ht hn => by
        refine k _ ⟨dx, _, t, upd_same, ?_, ?_, ?_⟩ fun a o e na => ?_
        · rfl
        · rfl
        · rw [upd_ne hn]
          exact ht
        · rw [upd_ne na]
          exact keep a o e na
      have few : (putF ("bits" : Str) (V.int (b : Int)) []).length < 1000 := by show 1 < 1000; decide
      have keep : ∀ a o, H a = some o → a ≠ p → (upd H2 p (.ins C dx (putF ("bits" : Str) (V.int (b : Int)) []))) a = some o := fun a o e na => by
        rw [upd_ne na]
        exact S a o e
      rcases hq with hq | hq
      · refine ⟨_, rfl, q, _, rfl, .inl ⟨SqL.of (keep _ _ hq npq), fun l hl => ?_⟩⟩
        have nlp : p ≠ l := ne_of_none upd_same hl
        refine ⟨_, rfl, p, C, dx, _, rfl, ?_, O_Layout.cl, n2, few, ?_⟩
        · rw [upd_ne nlp, upd_same]
        · refine fin _ l (fun a o e na => ?_) upd_same nlp.symm
          rw [upd_ne (ne_of_none (keep a o e na) hl)]
          exact keep a o e na
      · refine ⟨_, rfl, q, _, rfl, .inr ⟨SqT.of (keep _ _ hq npq), ?_⟩⟩
        exact ⟨_, rfl, p, C, dx, _, rfl, upd_same, O_Layout.cl, n2, few, fin _ q keep (keep _ _ hq npq) npq⟩
theorem sc_Layout_eq : FnScope ["self", "other"] ["self", "other"] (defScope s_Layout_eq) := ⟨rfl, rfl, rfl, by decide +kernel, rfl, by decide +kernel, by decide +kernel⟩
abbrev N_Layout_eq : List Str := ["self", "other"]
theorem ok_Layout_eq {f fI C : Addr} {fd : FuncData} (F : Fun K "__eq__" "Layout.__eq__" s_Layout_eq f fd) (T : Blt mg) (O_Layout : OwnC K mg "Layout" C fI) (n1 : NoAttr K C "bits") (n2 : NoAttr K C "means") : FnOk P w K mg base CX0 1 f fd ["self", "other"] (spLayEq K C) := by
  refine F.ok sc_Layout_eq (fun vs H Q E h => ?_) (fun cdv A outer s H vs Q E hr h => ?_)
  · obtain ⟨x, y, b, ms, rfl, _⟩ := h
    rfl
  · obtain ⟨x, y, b, ms, rfl, hx, h⟩ := h
    refine ⟨_, (pss_one (ps_ret (pe_and (pe_callB call_isi (by rfl) T.n_isinstance (by decide +kernel) (pa_cons (pv 1) (pa_cons (pe_glob (v := .ref _) (by rfl) O_Layout.g rfl) pa_nil))) (pe_and (pe_cmpR op_eq (pe_fld (pv 0) rfl) (pe_fld (pv 1) rfl) (nomark _)) (pe_one (pe_cmpR (op_eqD hr.units) (pe_fld (pv 0) rfl) (pe_fld (pv 1) rfl) (nomark _))))))), ?_⟩
    rcases h with ⟨y', b', ns, rfl, hy, k⟩ | ⟨⟨t, ty, ht⟩, k⟩
    · obtain ⟨dx, fs, t, h1, h2, h3, h4⟩ := hx
      obtain ⟨dy, gs, u, g1, g2, g3, g4⟩ := hy
      refine ⟨_, rfl, _, .ref C, .ref C, .ref C, true, rfl, .own C, O_Layout.ty g1, O_Layout.self, true, rfl, ?_⟩
      refine iteT ?_
      refine ⟨_, rfl, x, C, dx, _, _, rfl, h1, O_Layout.cl, n1, h2, _, rfl, y', C, dy, _, _, rfl, g1, O_Layout.cl, n1, g2, rfl, _, rfl, ?_⟩
      refine iteB (fun c => ?_) (fun c => ?_)
      · have e : b = b' := by
          have := V.int.inj (of_decide_eq_true c)
          omega
        refine ⟨_, rfl, x, C, dx, _, _, rfl, h1, O_Layout.cl, n2, h3, _, rfl, y', C, dy, _, _, rfl, g1, O_Layout.cl, n2, g3, ?_⟩
        refine ⟨.tuple (ms.map md), .tuple (ns.map md), Dp.tup (SqT.of h4) (dp_means ms), Dp.tup (SqT.of g4) (dp_means ns), shaped_means ms, shaped_means ns, ?_⟩
        rw [eqv_tup]
        rw [show decide (b = b' ∧ ms = ns) = decide (ms = ns) by simp [e]] at k
        exact k
      · have e : ¬ b = b' := fun z => of_decide_eq_false c (by rw [z])
        rw [show decide (b = b' ∧ ms = ns) = false by simp [e]] at k
        exact k
    · exact ⟨_, rfl, y, .ref C, t, .ref C, false, rfl, .own C, ty, ht, false, rfl, iteF k⟩
end
section
variable {P : Program} {w : World} {K : PySem.W.Frag} {mg : Str → Option Value} {base : Heap}
theorem sc_Layout_str : FnScope ["self", "state"] ["self"] (defScope s_Layout_str) := ⟨rfl, rfl, rfl, by decide +kernel, rfl, by decide +kernel, by decide +kernel⟩
abbrev N_Layout_str : List Str := ["self", "state"]
theorem txt_join (y : Str) (a : Str) (r : List Str) : Txt.join y (a :: r) = Txt.join y (a :: r) := rfl
theorem mtx_len {m : Option Nat} (h : ∀ n, m = some n → n ≤ 63) : (mtx m).length ≤ 3 := by
  cases m with
  | none => show (Str.ofString "-").length ≤ 3; decide +kernel
  | some n => exact (ds_small n (by have := h n rfl; omega)).2.2.2.1
theorem sum_le : ∀ l : List Nat, (∀ x ∈ l, x ≤ 3) → l.sum ≤ 3 * l.length
  | [], _ => by simp
  | a :: r, h => by
    have h1 := h a List.mem_cons_self
    have h2 := sum_le r fun x hx => h x (List.mem_cons_of_mem _ hx)
    rw [List.sum_cons, List.length_cons]
    omega
theorem lay_room {b : Nat} {ms : List (Option Nat)} (ok : LayOk b ms) : ((ds b :: ms.map mtx).map (·.length)).sum + (ds b :: ms.map mtx).length * (" " : Str).length ≤ 2000 := by
  have h1 : ∀ x ∈ (ds b :: ms.map mtx).map (·.length), x ≤ 3 := by
    intro x hx
    obtain ⟨y, hy, rfl⟩ := List.mem_map.mp hx
    rcases List.mem_cons.mp hy with rfl | hy
    · exact (ds_small b (by have := ok.b8; omega)).2.2.2.1
    · obtain ⟨m, hm, rfl⟩ := List.mem_map.mp hy
      exact mtx_len fun n e => ok.small n (e ▸ hm)
  have h2 := sum_le _ h1
  rw [List.length_map] at h2
  have h3 : (ds b :: ms.map mtx).length ≤ 257 := by
    rw [List.length_cons, List.length_map, ok.len]
    have := pow8 ok.b8
    omega
  rw [show (" " : Str).length = 1 by decide +kernel]
  omega
theorem log_small {n : Nat} (h : n < 256) : ((n : Int)).natAbs.log2 < 1920 := by
  rw [Int.natAbs_natCast]
  by_cases e : n = 0
  · rw [e]
    decide
  · have := (Nat.log2_lt e).mpr (show n < 2 ^ 8 from h)
    omega
theorem ok_Layout_str {f fI C : Addr} {fd : FuncData} (F : Fun K "__str__" "Layout.__str__" s_Layout_str f fd) (T : Blt mg) (O_Layout : OwnC K mg "Layout" C fI) (n1 : NoAttr K C "bits") (n2 : NoAttr K C "means") : FnOk P w K mg base CX0 1 f fd ["self"] (spLayStr C) := by
  refine F.ok sc_Layout_str (fun vs H Q E h => ?_) (fun cdv A outer s H vs Q E hr h => ?_)
  · obtain ⟨x, b, ms, rfl, _⟩ := h
    rfl
  · obtain ⟨x, b, ms, rfl, ⟨dx, fs, t, h1, h2, h3, h4⟩, ok, k⟩ := h
    have b8 := ok.b8
    refine ⟨_, (pss_one (ps_ret (pe_join pe_str (pe_op op_cat (pe_lst (pa_cons (pe_callTy call_str_int (by rfl) T.n_str (by decide +kernel) (pa_cons (pe_fld (pv 0) rfl) pa_nil)) pa_nil)) (pe_lc (own := [("state", 1)]) (g := (gName 1)) (tt := tYes) rfl sc_Layout_str.nd (pi_tup (pe_fld (pv 0) rfl)) (blkOk_by (N := N_Layout_str) (own := [("state", 1)]) (sc := defScope s_Layout_str) (by decide +kernel)) (fun _ _ _ _ _ => (pg_name (i := 1) sc_Layout_str.nd rfl (Or.inl rfl))) (fun _ _ _ _ _ => pts_nil) (fun _ _ _ _ _ => (pe_ifExp (pt_cmpR op_isN (pv 1) pe_non (nomark _)) (pe_glob (v := .str "-") rfl T.g_NOTHING.choose_spec ⟨_, rfl⟩) (pe_callTy call_str_int (by rfl) T.n_str (by decide +kernel) (pa_cons (pv 1) pa_nil))))))))), ?_⟩
    refine ⟨⟨_, rfl⟩, _, rfl, x, C, dx, _, _, rfl, h1, O_Layout.cl, n1, h2, _, rfl, log_small (by omega), ?_⟩
    refine ⟨by show 1 ≤ sizeLine; decide, fun l hl => ?_⟩
    have S1 := same_new (o := .lst [.str (ds b)]) hl
    refine ⟨_, rfl, x, C, dx, _, _, rfl, S1 _ _ h1, O_Layout.cl, n2, h3, t, rfl, ⟨_, SqT.of (S1 _ _ h4)⟩, fun D hD => ?_⟩
    have nlD : l ≠ D := ne_of_none upd_same hD
    refine lc_tup (K := K) (a := t) (xs := ms.map mv) (fun i H' => Same (upd H l (.lst [.str (ds b)])) H' ∧ H' D = some (.lst (((ms.take i).map mtx).map V.str))) ⟨same_new hD, upd_same⟩ (fun i H' _ h => SqT.of (h.1 _ _ (S1 _ _ h4))) ?_ ?_
    · rintro i y H' hy ⟨S2, hD2⟩
      obtain ⟨m, hm, rfl⟩ : ∃ m, ms[i]? = some m ∧ y = mv m := by
        rw [List.getElem?_map] at hy
        cases e : ms[i]? with
        | none => rw [e] at hy; cases hy
        | some m => rw [e] at hy; exact ⟨m, rfl, (Option.some.inj hy).symm⟩
      have hi := (List.getElem?_eq_some_iff.mp hm).1
      have p8 := pow8 b8
      have size : (((ms.take i).map mtx).map V.str).length < sizeLine := by
        rw [List.length_map, List.length_map, List.length_take, sizeLine_eq]
        have := ok.len
        omega
      have fin : ∃ acc, H' D = some (.lst acc) ∧ acc.length < sizeLine ∧ Same (upd H l (.lst [.str (ds b)])) (upd H' D (.lst (acc ++ [.str (mtx m)]))) ∧ (upd H' D (.lst (acc ++ [.str (mtx m)]))) D = some (.lst (((ms.take (i + 1)).map mtx).map V.str)) := by
        refine ⟨_, hD2, size, fun a o e => ?_, ?_⟩
        · rw [upd_ne (ne_of_none e hD)]
          exact S2 a o e
        · rw [upd_same, List.take_add_one, hm]
          simp
      refine ⟨rfl, _, rfl, rfl, _, rfl, ?_⟩
      cases m with
      | none => exact iteT fin
      | some n =>
        have := ok.small n (List.mem_of_getElem? hm)
        exact iteF ⟨_, rfl, _, rfl, log_small (by omega), fin⟩
    · rintro H' ⟨S2, hD2⟩
      rw [List.length_map, List.take_length] at hD2
      have hl2 := S2 _ _ (upd_same (H := H) (a := l) (o := .lst [.str (ds b)]))
      refine ⟨l, D, [.str (ds b)], (ms.map mtx).map V.str, rfl, rfl, hl2, hD2, ?_, fun q hq => ?_⟩
      · have p8 := pow8 b8
        have := ok.len
        simp only [List.length_map, List.length_cons, List.length_nil]
        rw [sizeLine_eq]
        omega
      · refine ⟨_, q, ds b :: ms.map mtx, rfl, rfl, .inl (SqL.of upd_same), ?_, ?_⟩
        · have := lay_room ok
          omega
        · exact k _ ((S1.trans S2).trans (same_new hq))
end
end K12
namespace K12
open PySem PySem.Spec PyProof.Rows L2 OB SkE
/-! ### texts of layouts, on lists of items -/
/-- a number's text within bounds -/
def numIn (y : Str) (lo hi : Int) : Option Nat := match MN.num y with
  | none => none
  | some n => if lo ≤ (n : Int) ∧ (n : Int) ≤ hi then some n else none
theorem numIn_some {y : Str} {lo hi : Int} {n : Nat} (h : numIn y lo hi = some n) : y = ds n ∧ MN.num y = some n ∧ lo ≤ (n : Int) ∧ (n : Int) ≤ hi := by
  unfold numIn at h
  split at h
  · cases h
  · rename_i e
    split at h
    · rename_i c
      cases h
      exact ⟨MN.num_text e, e, c.1, c.2⟩
    · cases h
theorem numIn_is {y : Str} {n : Nat} {lo hi : Int} (e : MN.num y = some n) (l1 : lo ≤ (n : Int)) (l2 : (n : Int) ≤ hi) : numIn y lo hi = some n := by
  unfold numIn
  rw [e]
  exact if_pos ⟨l1, l2⟩
theorem numIn_out {y : Str} {lo hi : Int} (c : MN.inR y lo hi = false) : numIn y lo hi = none := by
  unfold numIn
  cases e : MN.num y with
  | none => rfl
  | some n =>
    refine if_neg fun z => ?_
    rw [MN.inR_of e z.1 z.2] at c
    cases c
theorem inR_numIn {y : Str} {lo hi : Int} : MN.inR y lo hi = (numIn y lo hi).isSome := by
  cases e : numIn y lo hi with
  | some n =>
    obtain ⟨_, h, l1, l2⟩ := numIn_some e
    exact MN.inR_of h l1 l2
  | none =>
    cases c : MN.inR y lo hi with
    | false => rfl
    | true =>
      obtain ⟨n, _, h, l1, l2⟩ := MN.inR_ex c
      rw [numIn_is h l1 l2] at e
      cases e
/-- what an item tells -/
def mOf (y : Str) : Option (Option Nat) := if y = "-" then some none else (numIn y 0 63).map some
theorem mOf_mtx {m : Option Nat} (h : ∀ n, m = some n → n ≤ 63) : mOf (mtx m) = some m := by
  cases m with
  | none => exact if_pos rfl
  | some n =>
    have hn := h n rfl
    unfold mOf
    rw [if_neg (show mtx (some n) ≠ "-" from (ds_small n (by omega)).2.2.2.2.2.2.1)]
    have := MN.num_ds (n := n) (by have := (ds_small n (by omega)).2.2.2.1; omega)
    rw [show mtx (some n) = ds n from rfl, numIn_is this (by omega) (by omega)]
    rfl
theorem mtx_mOf {y : Str} {m : Option Nat} (h : mOf y = some m) : y = mtx m ∧ ∀ n, m = some n → n ≤ 63 := by
  unfold mOf at h
  by_cases c : y = "-"
  · rw [if_pos c] at h
    cases h
    exact ⟨c, fun n e => by cases e⟩
  · rw [if_neg c] at h
    cases e : numIn y 0 63 with
    | none => rw [e] at h; cases h
    | some n =>
      rw [e] at h
      cases h
      obtain ⟨a, _, _, b⟩ := numIn_some e
      refine ⟨a, fun k e => ?_⟩
      cases e
      omega
/-- the first item of some that tells nothing -/
def fstBad : List Str → Option Nat
  | [] => none
  | y :: r => if (mOf y).isSome = true then (fstBad r).map (· + 1) else some 0
/-- where a text of a layout stops -/
def stopL (ys : List Str) : Option Nat := match ys with
  | [] => some 0
  | y :: r => match numIn y 1 8 with
    | none => some 0
    | some b => match fstBad (r.take (2 ^ b)) with
      | some i => some (1 + i)
      | none => if r.length = 2 ^ b then none else some (1 + min (2 ^ b) r.length)
theorem fst_some : ∀ {l : List Str} {i : Nat}, (∀ j, j < i → ∃ y m, l[j]? = some y ∧ mOf y = some m) → (∃ y, l[i]? = some y ∧ mOf y = none) → fstBad l = some i
  | [], _, _, ⟨_, h, _⟩ => by cases h
  | y :: r, 0, _, ⟨z, h, e⟩ => by
    cases h
    unfold fstBad
    rw [e]
    rfl
  | y :: r, i + 1, h, ⟨z, hz, e⟩ => by
    obtain ⟨y', m, hy, hm⟩ := h 0 (by omega)
    cases hy
    have ih := fst_some (l := r) (i := i) (fun j hj => h (j + 1) (by omega)) ⟨z, hz, e⟩
    unfold fstBad
    rw [hm, ih]
    rfl
theorem fst_none : ∀ {l : List Str}, (∀ j, j < l.length → ∃ y m, l[j]? = some y ∧ mOf y = some m) → fstBad l = none
  | [], _ => rfl
  | y :: r, h => by
    obtain ⟨y', m, hy, hm⟩ := h 0 (by simp)
    cases hy
    have ih := fst_none (l := r) (fun j hj => h (j + 1) (by simpa using hj))
    unfold fstBad
    rw [hm, ih]
    rfl
theorem none_all : ∀ {l : List Str}, fstBad l = none → ∃ ms : List (Option Nat), l = ms.map mtx ∧ ∀ n, some n ∈ ms → n ≤ 63
  | [], _ => ⟨[], rfl, fun n h => by cases h⟩
  | y :: r, h => by
    unfold fstBad at h
    cases e : mOf y with
    | none => rw [e] at h; cases h
    | some m =>
      rw [e] at h
      cases q : fstBad r with
      | some i => rw [q] at h; cases h
      | none =>
        obtain ⟨ms, rfl, hs⟩ := none_all q
        obtain ⟨a, b⟩ := mtx_mOf e
        refine ⟨m :: ms, by rw [List.map_cons, a], fun n hn => ?_⟩
        rcases List.mem_cons.mp hn with z | z
        · exact b n z.symm
        · exact hs n z
theorem all_none (ms : List (Option Nat)) (h : ∀ n, some n ∈ ms → n ≤ 63) : fstBad (ms.map mtx) = none := fst_none fun j hj => by
  rw [List.length_map] at hj
  refine ⟨mtx ms[j], ms[j], by rw [List.getElem?_map, List.getElem?_eq_getElem hj]; rfl, mOf_mtx fun n e => h n (e ▸ List.getElem_mem hj)⟩
theorem stop_lay {b : Nat} {ms : List (Option Nat)} (ok : LayOk b ms) : stopL (ds b :: ms.map mtx) = none := by
  have b1 := ok.b1
  have b8 := ok.b8
  have := MN.num_ds (n := b) (by have := (ds_small b (by omega)).2.2.2.1; omega)
  unfold stopL
  simp only
  rw [numIn_is this (by omega) (by omega)]
  simp only
  rw [← ok.len, List.take_of_length_le (by rw [List.length_map]; exact Nat.le_refl _), all_none ms ok.small]
  simp only
  rw [if_pos (List.length_map _)]
theorem stop_none {ys : List Str} (h : stopL ys = none) : ∃ b ms, LayOk b ms ∧ ys = ds b :: ms.map mtx := by
  cases ys with
  | nil => cases h
  | cons y r =>
    unfold stopL at h
    simp only at h
    split at h
    · cases h
    rename_i b eb
    split at h
    · cases h
    rename_i ef
    split at h
    · rename_i el
      obtain ⟨a, _, b1, b8⟩ := numIn_some eb
      rw [List.take_of_length_le (by omega)] at ef
      obtain ⟨ms, hm, hs⟩ := none_all ef
      refine ⟨b, ms, ⟨by omega, by omega, by rw [← el, hm, List.length_map], hs⟩, by rw [a, hm]⟩
    · cases h
theorem ds_blank {n : Nat} (h : n < 256) : 32 ∉ TL.tl (ds n) := fun z => ((ds_small n h).2.2.2.2.2.2.2 32 z).1 rfl
theorem mtx_blank {m : Option Nat} (h : ∀ n, m = some n → n ≤ 63) : 32 ∉ TL.tl (mtx m) := by
  cases m with
  | none => show 32 ∉ TL.tl (Str.ofString "-"); decide +kernel
  | some n => exact ds_blank (by have := h n rfl; omega)
theorem lay_split {b : Nat} {ms : List (Option Nat)} (ok : LayOk b ms) : Txt.split (layText b ms) " " = ds b :: ms.map mtx := by
  refine TL.split_join (s := 32) (S := []) (by decide +kernel) (by decide +kernel) (List.cons_ne_nil _ _) fun p hp => ?_
  rcases List.mem_cons.mp hp with rfl | hp
  · exact ds_blank (by have := ok.b8; omega)
  · obtain ⟨m, hm, rfl⟩ := List.mem_map.mp hp
    exact mtx_blank fun n e => ok.small n (e ▸ hm)
/-- a text that stops nowhere is a layout's -/
theorem stop_text {z : Str} (h : stopL (Txt.split z " ") = none) : ∃ b ms, LayOk b ms ∧ z = layText b ms ∧ Txt.split z " " = ds b :: ms.map mtx := by
  obtain ⟨b, ms, ok, e⟩ := stop_none h
  exact ⟨b, ms, ok, by rw [← MN.join_split z, e]; rfl, e⟩
end K12
/-! A comprehension whose element may raise: what the element's call lets out goes on from the comprehension. -/
namespace OB
open PySem PySem.Spec PyProof.Rows L2
/-- an exception that flies in Y -/
def XEF (Y : Cx) (W : XK) (u : Value) (s' : Shared) : Prop :=
  ∃ (a : Addr) (B : Heap) (t : Shared) (pb : List (Addr × Obj)) (σ : L2.St) (H : Hp) (cls : Value) (d : Option Addr),
    u = .ref a ∧ Inv Y pb σ H t ∧ (∀ b o, t.heap.get? b = some o → b ∉ frs Y.stack → B.get? b = some o) ∧ t.heap.UpToSlots s'.heap ∧
      HandSPX.FlyingZ B Y.stack a (Zc cls d) s'.heap ∧ H a = none ∧ s'.os = t.os ∧ AllBare s'.gens ∧ W cls d H
/-- a call's exception flies -/
theorem XEF.of_call {Y : Cx} {W : XK} {pb : List (Addr × Obj)} {σ : L2.St} {H : Hp} {s s' : Shared} {u : Value} (I : Inv Y pb σ H s) (c : L2.CX Y.prog Y.w Y.stack H s W u s') : XEF Y W u s' := by
  obtain ⟨a, B, H', cls, d, rfl, fl, hok, ub, na, os, ag, hE⟩ := c
  obtain ⟨G, g1, g2⟩ := restrict s'.heap fun b => (B.get? b).isSome || decide (b ∈ frs Y.stack)
  have there : ∀ b o, B.get? b = some o → G.get? b = some o := fun b o e => (g1 b (by simp [e])).trans (fl.1 b o e)
  have onFrame : ∀ b, b ∈ frs Y.stack → G.get? b = s'.heap.get? b := fun b hb => g1 b (by simp [hb])
  have only : ∀ b o, G.get? b = some o → s'.heap.get? b = some o ∧ ((B.get? b).isSome = true ∨ b ∈ frs Y.stack) := fun b o e => by
    cases q : ((B.get? b).isSome || decide (b ∈ frs Y.stack)) with
    | false => rw [g2 b q] at e; cases e
    | true =>
      rw [g1 b q] at e
      exact ⟨e, by simpa [Bool.or_eq_true] using q⟩
  have un : Un (frs Y.stack) [] H H' s.heap G := ⟨fun b o e n hb _ => there b o (ub.keep b o e n hb), fun b o e n hb _ => by
    obtain ⟨sl, q⟩ := ub.slot b o e hb
    exact ⟨sl, (onFrame b hb).trans q⟩, fun b o e n _ => ub.free b o e n, fun b o e _ => by
    by_cases hb : b ∈ frs Y.stack
    · obtain ⟨sl, q⟩ := ub.slot b o e hb
      exact ⟨_, (onFrame b hb).trans q⟩
    · obtain ⟨o', q⟩ := ub.there b o e hb
      exact ⟨o', there b o' q⟩, ub.tups, ub.frzs, ub.tbls⟩
  refine ⟨a, B, { s with heap := G, gens := s'.gens, drawn := s'.drawn, toks := s'.toks }, pb, σ, H', cls, d, rfl, I.call (ch := []) un (hok.kept there) ag (fun _ z => nomatch z), fun b o e hb => ?_, Heap.UpToSlots.of_keeps fun b o e => (only b o e).1, fl, na, os, ag, hE⟩
  obtain ⟨e', h | h⟩ := only b o e
  · obtain ⟨o', q⟩ := Option.isSome_iff_exists.mp h
    have z := fl.1 b o' q
    rw [e'] at z
    cases z
    exact q
  · exact absurd h hb
/-- the context of a block whose element may raise -/
abbrev blkE (X : Cx) (s : Shared) (H : Hp) (scope : Scope) (cenv : Env) (fp : List Addr) (W : XK) : Cx := { X.blk s H scope cenv fp with xe := fun u s' => XEF (X.blk s H scope cenv fp) W u s' }
theorem inv_xe {X : Cx} {e : Value → Shared → Prop} {pb : List (Addr × Obj)} {σ : L2.St} {H : Hp} {s : Shared} (I : Inv X pb σ H s) : Inv { X with xe := e } pb σ H s :=
  ⟨⟨I.ok.mod, I.ok.kind, I.ok.glob, I.ok.blt, I.ok.above, I.ok.inj, I.ok.has, I.ok.cab, I.ok.hd, I.ok.frames, I.ok.stk, I.ok.exf, I.ok.bs, I.ok.bsz, I.ok.noex, I.ok.exfs, I.ok.funs, I.ok.frf⟩,
    I.os, I.bare, I.base, I.loc, I.cell, I.free, I.freeC, I.pin, I.hok, I.len⟩
theorem inv_ex {X : Cx} {e : Value → Shared → Prop} {pb : List (Addr × Obj)} {σ : L2.St} {H : Hp} {s : Shared} (I : Inv { X with xe := e } pb σ H s) : Inv X pb σ H s :=
  ⟨⟨I.ok.mod, I.ok.kind, I.ok.glob, I.ok.blt, I.ok.above, I.ok.inj, I.ok.has, I.ok.cab, I.ok.hd, I.ok.frames, I.ok.stk, I.ok.exf, I.ok.bs, I.ok.bsz, I.ok.noex, I.ok.exfs, I.ok.funs, I.ok.frf⟩,
    I.os, I.bare, I.base, I.loc, I.cell, I.free, I.freeC, I.pin, I.hok, I.len⟩
/-- what a call lets out is what the block awaits -/
theorem passAtF {X : Cx} {s : Shared} {H : Hp} {scope : Scope} {cenv : Env} {fp : List Addr} {W : XK} (σ : L2.St) : PassesAt (L2.CX X.prog X.w) (blkE X s H scope cenv fp W) σ (WE (fun cls d _ H => W cls d H) σ) :=
  fun _ _ _ _ _ I c => XEF.of_call (inv_ex I) c
/-- behind a block: its own variables are let go, what flies goes on from the very block's environment -/
def postE (M : Model) (A : Around) (E : Value → Shared → Prop) (use : Option (Value → Sem Unit)) (Q : Value → Shared → Prop) (acc : Value) (ce : Env) : Result → Shared → Prop := fun r s' =>
  match r with
  | .ok f => compPost M A E use Q acc ce.locals (.ok f) s'
  | .error x => ∃ m, s'.heap.Ns ce.locals m ∧ ∀ h', Heap.SameBut ce.locals s'.heap h' → wpAny M A (PySem.passOn "comprehension.variables-let-go" x ce : Sem Value) (fun _ _ => False) E { s' with heap := h' }
theorem frames_keep {B B' h h' : Heap} (kb : ∀ b, B.get? b = none → B'.get? b = none) : ∀ {l : List Env}, h.FunFrames B l → (∀ b ∈ frs l, ∀ o, h.get? b = some o → h'.get? b = some o) → h'.FunFrames B' l
  | [], _, _ => trivial
  | env :: l, ⟨hk, ⟨L, o, hf, hn, ho, hd⟩, hr⟩, k => by
    have hL : L ∈ frs (env :: l) := List.mem_filterMap.mpr ⟨env, List.mem_cons_self, hf⟩
    exact ⟨hk, ⟨L, o, hf, kb L hn, k L hL o ho, hd⟩, frames_keep kb hr fun b hb o e => k b (by
      obtain ⟨v, hv, q⟩ := List.mem_filterMap.mp hb
      exact List.mem_filterMap.mpr ⟨v, List.mem_cons_of_mem _ hv, q⟩) o e⟩
section
variable {X : Cx} {pins : List (Addr × Obj)} {σ : L2.St} {H3 : Hp} {s3 : Shared} {scope : Scope} {ce : Env} {fp : List Addr} {W : XK} {use : Option (Value → Sem Unit)} {Qf : Value → Shared → Prop} {acc : Value}
/-- what flies out of the block flies on in the def -/
theorem xef_out (hs : X.stack = X.env :: X.outer) (hf : X.env.frame = some X.env.locals) (tk : L2.Takes X (fun cls d _ H => W cls d H)) (I3 : Inv X pins σ H3 s3) (f3 : ∀ b ∈ fp, FpOk X pins H3 b) (cL : ce.locals = s3.heap.objs.size) (cF : ce.frame = X.env.frame)
    (u : Value) (s' : Shared) (x : XEF (X.blk s3 H3 scope ce fp) W u s') : notedBy (model X.prog X.w) X.A ce (fun e s'' => postE (model X.prog X.w) X.A X.xe use Qf acc ce (.error e) s'') u s' := by
  obtain ⟨a, B, t, pb, σb, H, cls, d, rfl, Ib, nb, up, fl, na, os, ag, w⟩ := x
  have hfr : X.A.frames = some (X.env :: X.outer) := by rw [← hs]; exact I3.ok.frames
  have fl : HandSPX.FlyingZ B X.stack a (Zc cls d) s'.heap := fl
  have nb : ∀ b o, t.heap.get? b = some o → b ∉ frs X.stack → B.get? b = some o := nb
  rw [hs] at fl
  have IX : Inv X pins σ H t := I3.call' (ch := fp) Ib.os Ib.base Ib.hok Ib.bare fun b hb => ⟨(f3 b hb).2.2.2.1, (f3 b hb).2.1, (f3 b hb).2.2.2.2.1, (f3 b hb).2.2.2.2.2⟩
  have nC : H s3.heap.objs.size = none := by
    have z : H ce.locals = none := Ib.free
    rw [cL] at z
    exact z
  have cf : s3.heap.objs.size ∉ frs X.stack := fun z => by
    rcases List.mem_cons.mp (I3.stkSub _ z) with z | z
    · have := I3.lt
      rw [← z] at this
      exact absurd this (Nat.lt_irrefl _)
    · exact I3.nofs (Nat.le_refl _) z
  obtain ⟨m, ⟨oC, es, ep, hoC, rC⟩, _⟩ := Ib.loc
  have hoC : t.heap.get? ce.locals = some oC := hoC
  rw [cL] at hoC
  have bC := nb _ _ hoC cf
  obtain ⟨f0, f1, f2, f4, f5, f6⟩ := I3.fpOk (H' := H) (Nat.le_refl _) nC
  show wpAny _ _ (noteFrame (.ref a) ce) _ _ _
  have e0 : noteFrame (.ref a) ce = noteFrame (.ref a) X.env := by
    unfold noteFrame PySem.frameOf
    rw [cF]
  rw [e0]
  refine HandSPX.looks_onZ Zc.steady hfr hf fl fun h1 hh up1 => ?_
  obtain ⟨k1, k2, k3, oe, vs, T, oT, ts, he, hz, hd, hv, hnT, hTe, hT, hdT, h3⟩ := hh
  have aC : a ≠ s3.heap.objs.size := fun z => by rw [z, bC] at k2; cases k2
  have tC : T ≠ s3.heap.objs.size := fun z => by rw [z, bC] at hnT; cases hnT
  refine ⟨m, ⟨oC, es, ep, by rw [cL]; exact k1 _ _ bC, rC⟩, fun h2 sb => ?_⟩
  rw [cL] at sb
  have he2 := (sb.2 a aC).trans he
  have hT2 := (sb.2 T tC).trans hT
  unfold PySem.passOn
  generalize hC : s3.heap.objs.size = C at *
  refine wpAny_bind (wpAny_field he2 hd hv ?_)
  dsimp only
  rw [if_neg (show ¬ ((Value.ref T == Value.none) = true) from by simp)]
  refine wpAny_bind ?_
  rw [cF, hf]
  obtain ⟨B', b1, b2⟩ := restrict B fun b => decide (b ≠ C)
  obtain ⟨G, g1, g2⟩ := restrict t.heap fun b => decide (b ≠ C)
  have bI : ∀ b o, B'.get? b = some o → b ≠ C ∧ B.get? b = some o := fun b o e => by
    by_cases z : b = C
    · rw [b2 b (by simp [z])] at e; cases e
    · exact ⟨z, by rw [← b1 b (by simp [z])]; exact e⟩
  have gI : ∀ b o, G.get? b = some o → b ≠ C ∧ t.heap.get? b = some o := fun b o e => by
    by_cases z : b = C
    · rw [g2 b (by simp [z])] at e; cases e
    · exact ⟨z, by rw [← g1 b (by simp [z])]; exact e⟩
  have bN : ∀ b, B.get? b = none → B'.get? b = none := fun b e => by
    cases q : B'.get? b with
    | none => rfl
    | some o => rw [(bI b o q).2] at e; cases e
  have st2 : B'.StaysIn h2 := fun b o e => (sb.2 b (bI b o e).1).trans (k1 b o (bI b o e).2)
  have fr2 : h2.FunFrames B' (X.env :: X.outer) := frames_keep bN k3 fun b hb o e => (sb.2 b (fun z => cf (by rw [hs, ← z]; exact hb))).trans e
  have tr2 : HandSPX.TracedZ h2 B' a (Zc cls d) (rawInt X.env.locals) := ⟨oe, vs, T, oT, ts, he2, hz, hd, hv, bN T hnT, hTe, hT2, hdT, h3⟩
  have IG : Inv X pins σ H { t with heap := G } := IX.turned (t' := t.toks) (fun b o hb e => (g1 b (by simp [hb])).trans e) f0 f1 f4 f5 f6
  refine HandSPX.setFlight_anyZ (fr := some X.env.locals) st2 fr2 tr2 fun h4 q1 q2 q3 q4 => wpAny_throw (tk _ _ ?_)
  refine ⟨a, B', { t with heap := G }, pins, σ, H, cls, d, rfl, IG, fun b o e hb => ?_, fun b o e hn => ?_, .inr (.inr ⟨q1, bN a k2, by rw [hs]; exact q2, q3⟩), na, os, ag, w⟩
  · obtain ⟨z, e⟩ := gI b o e
    exact (b1 b (by simp [z])).trans (nb b o e hb)
  · obtain ⟨z, e⟩ := gI b o e
    obtain ⟨sl, e1⟩ := up b o e hn
    obtain ⟨sl2, e2⟩ := up1 b _ e1 hn
    obtain ⟨sl3, e3⟩ := q4 b _ ((sb.2 b z).trans e2) hn
    exact ⟨sl3, e3⟩
end
/-- a comprehension, its block told with postE -/
theorem comp_E {M : Model} {A : Around} {E : Value → Shared → Prop} {s : Shared} {env : Env} {e : Expr} {scope : Scope} {pos : Pos} {newAcc first : Sem Value} {g : Comprehension} {gs : List Comprehension} {cl : List (Str × Addr)} {use : Option (Value → Sem Unit)} {Q : Value → Shared → Prop}
    (hcl : clausesOf e = g :: gs) (hit : ∀ x, foldedSetIterable g.iter env x = pure x) (hclos : closureFor scope env = pure cl) (hkind : scope.kind = .function) (hnames : ∀ x ∈ scope.names, x.2 = .local → scope.names.lookup x.1 = some .local)
    (h : wpAny M A first (fun x s1 => wpAny M A (pyIter x) (fun it s2 => wpAny M A newAcc (fun acc s3 => wpAny M A (newFunctionEnv scope env.globals cl [] env.qual none .none (some env)) (fun c s4 =>
      codeAny M A (.compStart e 0 it acc { c with scope := relabel scope env }) (postE M A E use Q acc { c with scope := relabel scope env }) s4) E s3) E s2) E s1) E s) :
    wpAny M A (comprehension e scope env pos newAcc false first use) Q E s := by
  have same : ∀ {e : Value} {t : Shared}, E e t → E e t := fun z => z
  have own : ∀ (c : Env), ∀ x ∈ (scope.names.filter fun x => (x.2 == .local || x.2 == .cell) && x.1 != (".0" : Str)).reverse, x.2 = .local → Env.kindOf { c with scope := relabel scope env } x.1 = some .local :=
    fun c x hx hl => lookup_relabel_local (hnames x (List.mem_filter.mp (List.mem_reverse.mp hx)).1 hl)
  unfold comprehension
  rw [hclos, hcl]
  refine wpAny_bind (wpAny_mono h (fun x s1 d1 => ?_) fun _ _ => same)
  refine wpAny_bind (wpAny_standAt (wpAny_bind (wpAny_of_eq (hit x) (wpAny_bind (wpAny_holding (wpAny_mono d1 (fun it s2 d2 => ?_) fun _ _ => same))))))
  refine wpAny_standIf (wpAny_bind (wpAny_mono d2 (fun acc s3 d3 => wpAny_bind (wpAny_pure (wpAny_bind (wpAny_mono d3 (fun c s4 d4 => ?_) fun _ _ => same)))) fun _ _ => same))
  dsimp only
  refine wpAny_holding (wpAny_bind (wpAny_attempt (wpAny_holding (wpAny_run (codeAny_mono d4 fun r s' hr => ?_)))))
  have own2 : ∀ x ∈ (scope.names.filter fun x => (x.2 == .local || x.2 == .cell) && x.1 != (".0" : Str)).reverse.drop 1 ++ (scope.names.filter fun x => (x.2 == .local || x.2 == .cell) && x.1 != (".0" : Str)).reverse.take 1,
      x.2 = .local → Env.kindOf { c with scope := relabel scope env } x.1 = some .local := fun x hx hl => own c x ((List.mem_append.mp hx).elim List.mem_of_mem_drop List.mem_of_mem_take) hl
  cases r with
  | error x =>
    obtain ⟨m, hn, hr⟩ := hr
    exact wpAny_bind (wpAny_holding (wpAny_comp_letGo (cenv := { c with scope := relabel scope env }) hkind _ s' m (own c) hn fun h' m' _ hs' => wpAny_mono (hr h' hs') (fun _ _ f => f.elim) fun _ _ => same))
  | ok f =>
    cases use with
    | none =>
      obtain ⟨m, hn, hr⟩ := hr
      exact wpAny_bind (wpAny_holding (wpAny_comp_letGo (cenv := { c with scope := relabel scope env }) hkind _ s' m (own c) hn fun h' m' _ hs' => wpAny_pure (hr h' hs')))
    | some u =>
      refine wpAny_bind (wpAny_rule (wpAny_bind (wpAny_holding (wpAny_mono hr (fun _ s'' hr' => ?_) fun _ _ => same))))
      obtain ⟨m, hn, hr'⟩ := hr'
      exact wpAny_bind (wpAny_comp_letGo (cenv := { c with scope := relabel scope env }) hkind _ s'' m own2 hn fun h' m' _ hs' => wpAny_pure (hr' h' hs'))
section
variable {X : Cx}
theorem lcE_core {pins : List (Addr × Obj)} {s : Shared} {σ : L2.St} {H : Hp} {Q : VK} {elt tg iter : Expr} {ifs : List Expr} {scope : Scope} {own : List (Str × Nat)} {pos pos' : Pos} {wi : TI} {g : TG} {tt : L2.TT} {te : TE} {W0 : XK} {use : Option (Value → Sem Unit)} {Qf : Value → Shared → Prop}
    (hs : X.stack = X.env :: X.outer) (hf : X.env.frame = some X.env.locals) (tk : L2.Takes X (fun cls d _ H => W0 cls d H)) (hc : X.calm = true) (hN : X.N.Nodup) (I : Inv X pins σ H s) (hi : PI X tg iter wi) (ok : BlkOk X.N X.env.scope scope own)
    (hg : ∀ (s : Shared) (H : Hp) (C : Addr) (cl : List (Str × Addr)) (fp : List Addr), PG (X.blk s H scope (compEnvC scope cl C X.env) fp) tg g) (ht : ∀ (s : Shared) (H : Hp) (C : Addr) (cl : List (Str × Addr)) (fp : List Addr), PTs (X.blk s H scope (compEnvC scope cl C X.env) fp) ifs tt)
    (he : ∀ (s : Shared) (H : Hp) (C : Addr) (cl : List (Str × Addr)) (fp : List Addr), PE (blkE X s H scope (compEnvC scope cl C X.env) fp W0) elt te) (hit : ∀ x, foldedSetIterable iter X.env x = pure x)
    (h : tLc wi g tt te (own.map (·.2)) σ H Q)
    (hRR : ∀ D C s' m H', Inv X pins σ H' s' → Q (.ref D) H' → s'.heap.Ns C m → FpOk X pins H' C → compPost (model X.prog X.w) X.A X.xe use Qf (.ref D) C (.ok .next) s') :
    wpAny (model X.prog X.w) X.A (comprehension (.ListComp elt [⟨tg, iter, ifs, 0⟩] scope pos) scope X.env pos' (newList []) false (eval iter X.env) use) Qf X.xe s := by
  have free : ∀ y ∈ scope.names, y.2 = .free → ∃ c, X.env.cells.lookup y.1 = some c := fun y hy e => (ok.free y hy e).elim (fun k => I.ok.has _ (.inl k)) fun k => I.ok.has _ (.inr k)
  refine comp_E (use := use) rfl hit (closure_ok free) ok.kind (fun y hy e => by rw [ok.uniq y hy, e]) (thn (hi.run pins s σ H _ I h) fun xv s1 hx => thn hx fun itv s2 h2 => ?_)
  obtain ⟨it, fp, tn, J, H2, e, I2, T, st2, f2, q⟩ := h2
  subst e
  refine wpAny_newObj_type (newEnv_comp ?_) (by show 0 ≤ sizeLine; decide)
  generalize hD : s2.heap.objs.size = D
  have hDn : H2 D = none := I2.hok.fresh (Nat.le_of_eq hD)
  obtain ⟨W, ⟨m0, w0⟩, turn⟩ := q D hDn
  generalize hs3 : ({ s2 with heap := s2.heap.push { cls := .type "list", data := .seq ([] : List Value).toArray } } : Shared) = s3
  have h3 : s3.heap = s2.heap.push { cls := .type "list", data := .seq ([] : List Value).toArray } := by rw [← hs3]
  have kp3 : ∀ b o, s2.heap.get? b = some o → s3.heap.get? b = some o := fun b o e => by rw [h3]; exact Heap.get?_push_of_some _ e
  have I3 : Inv X pins σ (upd H2 D (.lst [])) s3 := by
    rw [← hs3]
    refine I2.laid (t' := s2.toks) (fun b o e => Heap.get?_push_of_some _ e) (Nat.le_of_eq hD) ⟨Nat.zero_le _, [], 0, .nil, ?_⟩
    rw [← hD]
    exact Heap.get?_push_size _ rfl
  have f3 : ∀ b ∈ fp, FpOk X pins (upd H2 D (.lst [])) b ∧ b < s3.heap.objs.size := fun b hb => by
    obtain ⟨o, e, _⟩ := T.obj _ _ st2 b hb
    have hlt := Heap.lt_size e
    refine ⟨⟨(upd_ne (by rw [← hD]; exact Nat.ne_of_lt hlt)).trans (f2 b hb).1, (f2 b hb).2⟩, ?_⟩
    rw [h3, Heap.size_push]
    exact Nat.lt_succ_of_lt hlt
  have st3 : tn 0 s3.heap := T.keep _ _ _ st2 fun b _ o e => kp3 b o e
  have I4 := block_start I3 ok hN f3
  obtain ⟨ce, hce⟩ : ∃ ce, ce = compEnvC scope (cellsFrom (s3.heap.objs.size + 1) scope.names (cloFrom X.env.cells scope.names [])) s3.heap.objs.size X.env := ⟨_, rfl⟩
  have pg := hg s3 (upd H2 D (.lst [])) s3.heap.objs.size (cellsFrom (s3.heap.objs.size + 1) scope.names (cloFrom X.env.cells scope.names [])) fp
  have pt := ht s3 (upd H2 D (.lst [])) s3.heap.objs.size (cellsFrom (s3.heap.objs.size + 1) scope.names (cloFrom X.env.cells scope.names [])) fp
  have pe := he s3 (upd H2 D (.lst [])) s3.heap.objs.size (cellsFrom (s3.heap.objs.size + 1) scope.names (cloFrom X.env.cells scope.names [])) fp
  show codeAny _ _ (.compStart (.ListComp elt [⟨tg, iter, ifs, 0⟩] scope pos) 0 (.ref it) (.ref D) (compEnvC scope (cellsFrom (s3.heap.objs.size + 1) scope.names (cloFrom X.env.cells scope.names [])) s3.heap.objs.size X.env))
    (postE (model X.prog X.w) X.A X.xe use Qf (.ref D) (compEnvC scope (cellsFrom (s3.heap.objs.size + 1) scope.names (cloFrom X.env.cells scope.names [])) s3.heap.objs.size X.env)) { s3 with heap := pushCells (s3.heap.push { cls := .type "dict", data := .dict #[] }) scope.names }
  have cL : ce.locals = s3.heap.objs.size := by rw [hce]; rfl
  have cF : ce.frame = X.env.frame := by rw [hce]; rfl
  have nfp : ∀ b ∈ fp, (upd H2 D (.lst [])) b = none := fun b hb => (f3 b hb).1.1
  rw [← hce] at I4 pg pt pe ⊢
  clear hce
  generalize upd H2 D (.lst []) = H3 at I3 I4 pg pt pe w0 nfp f3
  generalize hs4 : ({ s3 with heap := pushCells (s3.heap.push { cls := .type "dict", data := .dict #[] }) scope.names } : Shared) = s4 at I4 ⊢
  have st4 : tn 0 s4.heap := T.keep _ _ _ st3 fun b _ o e => by rw [← hs4]; exact pushCells_keeps _ _ _ _ (Heap.get?_push_of_some _ e)
  have out := fun u s' => xef_out (use := use) (Qf := Qf) (acc := .ref D) (scope := scope) hs hf tk I3 (fun b hb => (f3 b hb).1) cL cF u s'
  have stand : ∀ {σ' : L2.St} {H' : Hp} {s' : Shared}, Inv (X.blk s3 H3 scope ce fp) [] σ' H' s' → (∀ b ∈ fp, H' b = none) → ∀ b ∈ fp, FpOk (X.blk s3 H3 scope ce fp) [] H' b := fun {σ' H' s'} I' hn b hb =>
    ⟨hn b hb, (I'.ok.exf b hb).1, I'.ok.exfs b hb, .inl hb, fun x c e => (I'.ok.exf b hb).2 x c e, fun p hp => absurd (show p ∈ ([] : List (Addr × Obj)) ++ [] from hp) (by simp)⟩
  have loop : codeAny (model X.prog X.w) X.A (.compLoop (.ListComp elt [⟨tg, iter, ifs, 0⟩] scope pos) 0 (.ref it) (.ref D) ce) (postE (model X.prog X.w) X.A X.xe use Qf (.ref D) ce) s4 := by
    refine compLoop_any (fun n s' => ∃ i H', Inv (X.blk s3 H3 scope ce fp) [] (wipe σ (own.map (·.2))) H' s' ∧ tn i s'.heap ∧ (∀ b ∈ fp, H' b = none) ∧ W i n H') ?_ m0 ⟨0, H3, I4, st4, nfp, w0⟩
    rintro n s5 ⟨i, H5, I5, st5, n5, w5⟩
    rcases turn i n H5 w5 with ⟨stop, qq⟩ | ⟨go, Nx, hNx, step⟩
    · refine thnF (T.done (X.blk s3 H3 scope ce fp) rfl rfl rfl hc i [] s5 _ H5 (fun _ _ => False) I5 (stand I5 n5) st5 stop) fun r s6 ⟨hr, I6⟩ => ?_
      subst hr
      have I7 : Inv X pins σ H5 s6 := I3.call' (ch := fp) I6.os I6.base I6.hok I6.bare fun b hb => ⟨(f3 b hb).1.2.2.2.1, (f3 b hb).1.2.1, (f3 b hb).1.2.2.2.2.1, (f3 b hb).1.2.2.2.2.2⟩
      have nC : H5 ce.locals = none := I6.free
      obtain ⟨m, hn, _⟩ := I6.loc
      have hn : s6.heap.Ns ce.locals m := hn
      show compPost _ _ _ _ _ _ ce.locals (.ok .next) s6
      rw [cL] at nC hn ⊢
      exact hRR D s3.heap.objs.size s6 m H5 I7 qq hn (I3.fpOk (Nat.le_refl _) nC)
    · refine thnF (T.item (X.blk s3 H3 scope ce fp) rfl rfl rfl hc i [] s5 _ H5 (fun _ _ => False) I5 (stand I5 n5) st5 go) fun r s6 ⟨u, hr, h6⟩ => ?_
      subst hr
      refine thnF h6 fun _ s7 ⟨x, H7, I7, r7, y7, st7, n7⟩ => ?_
      have I8' := I7.pinned (stand I7 n7) (T.obj _ _ st7)
      refine thnF (pg.run _ s7 _ H7 x u _ I8' r7 (step x H7 y7)) fun _ s8 ⟨σ8, H8, I8, hw8, q8⟩ => ?_
      refine thnF (pt.run _ s8 σ8 H8 _ I8 q8) fun b s9 ⟨H9, I9, q9⟩ => ?_
      have turned : ∀ {s' : Shared} {H' : Hp}, Inv (X.blk s3 H3 scope ce fp) ([] ++ pinsAt fp s7.heap) σ8 H' s' → Nx H' → ∃ m, m < n ∧ ∃ i H', Inv (X.blk s3 H3 scope ce fp) [] (wipe σ (own.map (·.2))) H' s' ∧ tn i s'.heap ∧ (∀ b ∈ fp, H' b = none) ∧ W i m H' := fun {s' H'} I' nx => by
        obtain ⟨m', hm, w'⟩ := hNx H' nx
        have pin' : ∀ b ∈ fp, ∀ o, s7.heap.get? b = some o → s'.heap.get? b = some o ∧ H' b = none := fun b hb o e =>
          let z := I'.pin (b, o) (List.mem_append_right _ (List.mem_append_right _ (mem_pinsAt hb e)))
          ⟨z.1, z.2.1⟩
        refine ⟨m', hm, i + 1, H', (I'.unpinned (pins := [])).weak (by rw [← hw8, wipe_length]) (fun j v e => ?_), T.keep _ _ _ st7 fun b hb o e => (pin' b hb o e).1, fun b hb => ?_, w'⟩
        · rw [← hw8] at e
          exact (wipe_some e).1
        · obtain ⟨o, e, _⟩ := T.obj _ _ st7 b hb
          exact (pin' b hb o e).2
      cases b with
      | false =>
        rw [if_neg (by decide)] at q9 ⊢
        exact turned I9 q9
      | true =>
        rw [if_pos rfl] at q9 ⊢
        refine wpAny_mono (pe.run _ s9 σ8 H9 _ (inv_xe I9) q9) (fun z s10 hz => ?_) out
        obtain ⟨yv, H10, I10, r10, acc, hD10, hz10, nx⟩ := hz
        exact app_ok (X := X.blk s3 H3 scope ce fp) (inv_ex I10) hD10 hz10 r10 fun s11 I11 => turned I11 nx
  exact codeAny_compStart_list loop (T.self X.A 0 _ _ _ st4 loop)
variable {elt tg iter : Expr} {ifs : List Expr} {scope : Scope} {own : List (Str × Nat)} {pos spos : Pos} {wi : TI} {g : TG} {tt : L2.TT} {te : TE} {W0 : XK}
/-- as a value -/
theorem pe_lcE (hs : X.stack = X.env :: X.outer) (hf : X.env.frame = some X.env.locals) (tk : L2.Takes X (fun cls d _ H => W0 cls d H)) (hc : X.calm = true) (hN : X.N.Nodup) (hi : PI X tg iter wi) (ok : BlkOk X.N X.env.scope scope own)
    (hg : ∀ (s : Shared) (H : Hp) (C : Addr) (cl : List (Str × Addr)) (fp : List Addr), PG (X.blk s H scope (compEnvC scope cl C X.env) fp) tg g) (ht : ∀ (s : Shared) (H : Hp) (C : Addr) (cl : List (Str × Addr)) (fp : List Addr), PTs (X.blk s H scope (compEnvC scope cl C X.env) fp) ifs tt)
    (he : ∀ (s : Shared) (H : Hp) (C : Addr) (cl : List (Str × Addr)) (fp : List Addr), PE (blkE X s H scope (compEnvC scope cl C X.env) fp W0) elt te) (hit : ∀ x, foldedSetIterable iter X.env x = pure x := by intro _; rfl) :
    PE X (.ListComp elt [⟨tg, iter, ifs, 0⟩] scope pos) (tLc wi g tt te (own.map (·.2))) := by
  refine ⟨fun pins s σ H Q I h => ?_⟩
  rw [eval_ListComp]
  refine lcE_core hs hf tk hc hN I hi ok hg ht he hit h fun D C s' m H' I' q hn f => ⟨m, hn, fun h'' sb => ?_⟩
  obtain ⟨z0, z1, _, z3, z4, z5⟩ := f
  exact ⟨.ref D, H', I'.turned (t' := s'.toks) (fun b o hb e => (sb.2 b hb).trans e) z0 z1 z3 z4 z5, rfl, q⟩
/-- name = [..] on one line, the name a local -/
theorem ps_setLcE {i : Nat} {y : Str} {py : Pos} (hs : X.stack = X.env :: X.outer) (hf : X.env.frame = some X.env.locals) (tk : L2.Takes X (fun cls d _ H => W0 cls d H)) (hc : X.calm = true) (hN : X.N.Nodup) (hy : X.N[i]? = some y) (hyl : X.env.scope.names.lookup y = some .local)
    (hsw : swapsWith (.ListComp elt [⟨tg, iter, ifs, 0⟩] scope pos) (some (.Name y py)) spos.line X.env = pure true) (hi : PI X tg iter wi) (ok : BlkOk X.N X.env.scope scope own)
    (hg : ∀ (s : Shared) (H : Hp) (C : Addr) (cl : List (Str × Addr)) (fp : List Addr), PG (X.blk s H scope (compEnvC scope cl C X.env) fp) tg g) (ht : ∀ (s : Shared) (H : Hp) (C : Addr) (cl : List (Str × Addr)) (fp : List Addr), PTs (X.blk s H scope (compEnvC scope cl C X.env) fp) ifs tt)
    (he : ∀ (s : Shared) (H : Hp) (C : Addr) (cl : List (Str × Addr)) (fp : List Addr), PE (blkE X s H scope (compEnvC scope cl C X.env) fp W0) elt te) (hit : ∀ x, foldedSetIterable iter X.env x = pure x := by intro _; rfl) :
    PS X (.Assign [.Name y py] (.ListComp elt [⟨tg, iter, ifs, 0⟩] scope pos) spos) (tAsg (tLc wi g tt te (own.map (·.2))) (gName i)) := by
  refine ⟨fun pins s σ H D I h => ?_⟩
  rw [exec_Assign_Name_used _ _ _ _ hsw]
  refine wpAny_bind (wpAny_standAt (wpAny_bind ?_))
  show wpAny _ X.A (do let _ ← comprehension (.ListComp elt [⟨tg, iter, ifs, 0⟩] scope pos) scope X.env (firstIterPos [⟨tg, iter, ifs, 0⟩] pos) (newList []) false (eval iter X.env) (some (assign (.Name y py) X.env))) _ _ s
  have h : tLc wi g tt te (own.map (·.2)) σ H (fun x H1 => gName i x σ H1 D.nx) := h
  refine wpAny_bind (thn (lcE_core (Qf := fun _ s' => SP X pins D .next s') hs hf tk hc hN I hi ok hg ht he hit h fun L C s' m H' I' q hn f => ?_) fun _ s' hq => wpAny_pure (wpAny_pure hq))
  show wpAny _ _ (assign (.Name y py) X.env (.ref L)) _ _ _
  obtain ⟨z0, z1, _, z3, z4, z5⟩ := f
  refine wpAny_assign_Name (store_ok2 (v := V.ref L) I' hN hy (.inl hyl) rfl (fun s2 I2 ⟨a, sb, ha⟩ => ?_) (.inr hyl))
  have away : C ≠ a := ha.elim (fun z => by rw [z]; exact z1) fun z e => z4 y a z e.symm
  exact ⟨m, hn.sameBut sb away, fun h3 sb3 => ⟨_, H', I2.turned (t' := s2.toks) (fun b o hb e => (sb3.2 b hb).trans e) z0 z1 z3 z4 z5, q⟩⟩
end
end OB
/-! A lambda's reading grows with what is wanted: sums of ints, calls within, max of a list. -/
namespace OB
open PySem PySem.Spec PyProof.Rows L2 LamX
theorem mte_i0 {op : Int → Int → V} {a b : TE} (ha : MTE a) (hb : MTE b) : MTE (tOp (rI0 op) a b) := fun σ H Q1 Q2 h z =>
  ha σ H _ _ (fun x H1 z1 => hb σ H1 _ _ (fun y H2 ⟨i, j, e1, e2, q⟩ => ⟨i, j, e1, e2, h _ _ q⟩) z1) z
def SpMonoQ (sp : Sp) : Prop := ∀ vs H (Q1 Q2 : VK), (∀ v H, Q1 v H → Q2 v H) → sp vs H Q1 E0 → sp vs H Q2 E0
theorem mte_call {sp : Sp} {t : TA} (hs : SpMonoQ sp) (ht : MTA t) : MTE (tCall sp [] E0 t) := fun σ H Q1 Q2 h z => ht σ H _ _ (fun vs H1 z1 => hs _ _ _ _ h z1) z
def RMono (r : List V → Hp → VK → Prop) : Prop := ∀ vs H (Q1 Q2 : VK), (∀ v H, Q1 v H → Q2 v H) → r vs H Q1 → r vs H Q2
theorem mte_cb {r : List V → Hp → VK → Prop} {t : TA} (hr : RMono r) (ht : MTA t) : MTE (tCB r t) := fun σ H Q1 Q2 h z => ht σ H _ _ (fun vs H1 z1 => hr _ _ _ _ h z1) z
theorem mono_Max {K : PySem.W.Frag} : RMono (rMax K) := fun vs H Q1 Q2 h ⟨a, ns, e, hl, h0, k⟩ => ⟨a, ns, e, hl, h0, fun m hm hy => h _ _ (k m hm hy)⟩
theorem mono_Min {K : PySem.W.Frag} : RMono (rMin K) := fun vs H Q1 Q2 h ⟨a, ns, e, hl, h0, k⟩ => ⟨a, ns, e, hl, h0, fun m hm hy => h _ _ (k m hm hy)⟩
def R2Mono (r : R2) : Prop := ∀ x y H (Q1 Q2 : VK), (∀ v H, Q1 v H → Q2 v H) → r x y H Q1 → r x y H Q2
theorem mte_op {r : R2} {a b : TE} (hr : R2Mono r) (ha : MTE a) (hb : MTE b) : MTE (tOp r a b) := fun σ H Q1 Q2 h z =>
  ha σ H _ _ (fun x H1 z1 => hb σ H1 _ _ (fun y H2 z2 => hr _ _ _ _ _ h z2) z1) z
theorem mono_Rep : R2Mono rRep := fun x y H Q1 Q2 h ⟨l, k, xs, e1, e2, a, b, c, d, q⟩ => ⟨l, k, xs, e1, e2, a, b, c, d, fun p hp => h _ _ (q p hp)⟩
theorem mono_Cat : R2Mono rCat := fun x y H Q1 Q2 h ⟨l, k, xs, zs, e1, e2, a, b, c, q⟩ => ⟨l, k, xs, zs, e1, e2, a, b, c, fun p hp => h _ _ (q p hp)⟩
theorem mte_make {C : Addr} {sp : Sp} {t : TA} (hs : SpMonoQ sp) (ht : MTA t) : MTE (tMake C sp [] E0 t) := fun σ H Q1 Q2 h z =>
  ht σ H _ _ (fun vs H1 z1 x dx a b c => hs _ _ _ _ (fun v H2 w => ⟨w.1, h _ _ w.2⟩) (z1 x dx a b c)) z
end OB
/-! Operations on naturals, told as naturals. -/
namespace OB
open PySem PySem.Spec PyProof.Rows L2
/-- below a great power: hidden from omega -/
def W30 (a : Nat) : Prop := a < 2 ^ 30000
def rNat2 (C : Nat → Nat → Prop) (g : Nat → Nat → Nat) : R2 := fun x y H Q => ∀ P : Prop, (∀ a b : Nat, x = .int (a : Int) → y = .int (b : Int) → C a b → Q (.int ((g a b : Nat) : Int)) H → P) → P
theorem st_n {C : Nat → Nat → Prop} {g : Nat → Nat → Nat} {x y : V} {a b r : Nat} {H : Hp} {Q : VK} (ex : x = .int (a : Int)) (ey : y = .int (b : Int)) (hc : C a b) (er : g a b = r) (k : Q (.int (r : Int)) H) : rNat2 C g x y H Q := by
  subst er
  exact fun P h => h a b ex ey hc k
theorem bits_le {a k : Nat} (h : a < 2 ^ k) : Builtin.Int.intBits (a : Int) ≤ k + 1 := by
  unfold Builtin.Int.intBits
  by_cases z : a = 0
  · subst z; simp
  · have := (Nat.log2_lt z).mpr h
    simp
    first
      | omega
      | (split <;> omega)
theorem rNat2.ex {C : Nat → Nat → Prop} {g : Nat → Nat → Nat} {x y : V} {H : Hp} {Q : VK} (h : rNat2 C g x y H Q) : ∃ a b : Nat, x = .int (a : Int) ∧ y = .int (b : Int) ∧ C a b ∧ Q (.int ((g a b : Nat) : Int)) H :=
  h _ fun a b e1 e2 c q => ⟨a, b, e1, e2, c, q⟩
/-- a constant, told as a natural -/
theorem pe_intN {X : Cx} {j : Nat} {pos : Pos} (n : Nat) : PE X (.Constant (.int ((n : Nat) : Int)) j pos) (tC (.int ((n : Nat) : Int))) := pe_int
abbrev CT (_ _ : Nat) : Prop := True
section
variable {X : Cx}
theorem nop_add : OpR X (binaryOp .Add) (rNat2 CT fun a b => a + b) := by
  intro pins s σ H x y v u Q I rx ry h
  obtain ⟨a, b, e1, e2, _, q⟩ := h.ex
  exact op_add pins s σ H x y v u Q I rx ry ⟨_, _, e1, e2, by show Q (V.int ((a : Int) + b)) H; rw [← Int.natCast_add]; exact q⟩
theorem nop_sub : OpR X (binaryOp .Sub) (rNat2 (fun a b => b ≤ a) fun a b => a - b) := by
  intro pins s σ H x y v u Q I rx ry h
  obtain ⟨a, b, e1, e2, h, q⟩ := h.ex
  exact op_sub pins s σ H x y v u Q I rx ry ⟨_, _, e1, e2, by show Q (V.int ((a : Int) - b)) H; rw [← Int.ofNat_sub h]; exact q⟩
theorem nop_mul : OpR X (binaryOp .Mult) (rNat2 (fun a b => a < 2 ^ 63 ∨ b < 2 ^ 63) fun a b => a * b) := by
  intro pins s σ H x y v u Q I rx ry h
  obtain ⟨a, b, e1, e2, h, q⟩ := h.ex
  refine op_mul pins s σ H x y v u Q I rx ry ⟨_, _, e1, e2, ?_, by show Q (V.int ((a : Int) * b)) H; rw [← Int.natCast_mul]; exact q⟩
  rcases h with h | h
  · exact .inl ⟨by omega, by omega⟩
  · exact .inr ⟨by omega, by omega⟩
theorem nop_mod : OpR X (binaryOp .Mod) (rNat2 (fun _ b => 0 < b) fun a b => a % b) := by
  intro pins s σ H x y v u Q I rx ry h
  obtain ⟨a, b, e1, e2, h, q⟩ := h.ex
  exact op_mod pins s σ H x y v u Q I rx ry ⟨_, _, e1, e2, by show (0 : Int) < _; omega, by show Q (V.int ((a : Int) % b)) H; rw [← Int.natCast_emod]; exact q⟩
theorem nop_fdiv : OpR X (binaryOp .FloorDiv) (rNat2 (fun _ b => 0 < b ∧ b < 1073741824) fun a b => a / b) := by
  intro pins s σ H x y v u Q I rx ry h
  obtain ⟨a, b, e1, e2, h, q⟩ := h.ex
  exact op_fdiv pins s σ H x y v u Q I rx ry ⟨_, _, e1, e2, ⟨by show (0 : Int) < _; omega, by show (b : Int) < _; omega⟩, by show Q (V.int ((a : Int) / b)) H; rw [← Int.natCast_ediv]; exact q⟩
theorem nop_shr : OpR X (binaryOp .RShift) (rNat2 CT fun a b => a / 2 ^ b) := by
  intro pins s σ H x y v u Q I rx ry h
  obtain ⟨a, b, e1, e2, _, q⟩ := h.ex
  refine op_shrN pins s σ H x y v u Q I rx ry ⟨_, _, e1, e2, ?_⟩
  rw [show (a : Int) / 2 ^ b = ((a / 2 ^ b : Nat) : Int) by rw [Int.natCast_ediv, Int.natCast_pow]; rfl]
  exact q
theorem nop_shl : OpR X (binaryOp .LShift) (rNat2 (fun a b => W30 a ∧ b ≤ 30000) fun a b => a * 2 ^ b) := by
  intro pins s σ H x y v u Q I rx ry h
  obtain ⟨a, b, e1, e2, h, q⟩ := h.ex
  refine op_shlN pins s σ H x y v u Q I rx ry ⟨_, _, e1, e2, ⟨Int.natCast_nonneg _, ?_⟩, ?_⟩
  · have := bits_le h.1
    have h2 := h.2
    show (Builtin.Int.intBits (a : Int) : Int) + (b : Int) ≤ 2 ^ 27
    rw [show (2 : Int) ^ 27 = 134217728 by decide]
    omega
  · rw [show (a : Int) * 2 ^ b = ((a * 2 ^ b : Nat) : Int) by rw [Int.natCast_mul, Int.natCast_pow]; rfl]
    exact q
theorem nop_and : OpR X (binaryOp .BitAnd) (rNat2 CT fun a b => a &&& b) := by
  intro pins s σ H x y v u Q I rx ry h
  obtain ⟨a, b, e1, e2, _, q⟩ := h.ex
  refine op_and pins s σ H x y v u Q I rx ry ⟨_, _, e1, e2, ?_⟩
  show Q (V.int (Builtin.bitAnd (a : Int) b)) H
  rw [bitAnd_pp (Int.natCast_nonneg _) (Int.natCast_nonneg _), Int.toNat_natCast, Int.toNat_natCast]
  exact q
theorem nop_xor : OpR X (binaryOp .BitXor) (rNat2 CT fun a b => a ^^^ b) := by
  intro pins s σ H x y v u Q I rx ry h
  obtain ⟨a, b, e1, e2, _, q⟩ := h.ex
  refine op_xor pins s σ H x y v u Q I rx ry ⟨_, _, e1, e2, ?_⟩
  show Q (V.int (Builtin.bitXor (a : Int) b)) H
  rw [Bits.bitXor_pp (Int.natCast_nonneg _) (Int.natCast_nonneg _), Int.toNat_natCast, Int.toNat_natCast]
  exact q
theorem nop_or : OpR X (binaryOp .BitOr) (rNat2 CT fun a b => a ||| b) := by
  intro pins s σ H x y v u Q I rx ry h
  obtain ⟨a, b, e1, e2, _, q⟩ := h.ex
  refine op_or pins s σ H x y v u Q I rx ry ⟨_, _, e1, e2, ?_⟩
  show Q (V.int (Builtin.bitOr (a : Int) b)) H
  rw [Bits.bitOr_pp (Int.natCast_nonneg _) (Int.natCast_nonneg _), Int.toNat_natCast, Int.toNat_natCast]
  exact q
end
theorem W30.of {a k : Nat} (h : a < 2 ^ k) (hk : k ≤ 30000) : W30 a := Nat.lt_of_lt_of_le h (Nat.pow_le_pow_right (by decide) hk)
theorem W30.le {a b : Nat} (h : W30 b) (hk : a ≤ b) : W30 a := Nat.lt_of_le_of_lt hk h
theorem W30.one : W30 1 := .of (k := 1) (by decide) (by decide)
/-- 1 << k, by a name -/
def rOneR : R2 := fun x y H Q => ∃ k : Nat, x = .int 1 ∧ y = .int (k : Int) ∧ k ≤ 1000000 ∧ Q (.int ((2 ^ k : Nat) : Int)) H
theorem mono_one : R2Mono rOneR := fun x y H Q1 Q2 h ⟨k, a, b, c, q⟩ => ⟨k, a, b, c, h _ _ q⟩
theorem mono_nat {C : Nat → Nat → Prop} {g : Nat → Nat → Nat} : R2Mono (rNat2 C g) := fun x y H Q1 Q2 h z P k => z P fun a b e1 e2 c q => k a b e1 e2 c (h _ _ q)
theorem and_mask (a k : Nat) : a &&& (2 ^ k - 1) = a % 2 ^ k := Nat.and_two_pow_sub_one_eq_mod a k
theorem and_1 (a : Nat) : a &&& 1 = a % 2 := Nat.and_one_is_mod a
end OB
namespace K12
open PySem PySem.Spec PyProof.Rows L2 OB SkE LamX
def spMeanAtX (CT : Addr) : Sp := fun vs H Q E => ∃ (q : Addr) (ys : List Str) (i : Nat), vs = [.ref q, .int (i : Int)] ∧ H q = some (.lst (ys.map V.str)) ∧ (∀ y ∈ ys, y.length ≤ 1000000) ∧
  (∀ y m, ys[i]? = some y → mOf y = some m → Q (mv m) H) ∧ (∀ y, ys[i]? = some y → mOf y = none → Raises2 CT 0 (i : Int) E H) ∧ (ys[i]? = none → Raises2 CT 0 (ys.length : Int) E H)
def spLRead (K : PySem.W.Frag) (C CT : Addr) : Sp := fun vs H Q E => ∃ x : V, vs = [x] ∧ ((NotS K H x ∧ Raises2 CT 0 0 E H) ∨ ∃ z : Str, x = .str z ∧ z.length ≤ 100000 ∧
  (∀ k : Nat, stopL (Txt.split z " ") = some k → ∀ H1, Same H H1 → Raises2 CT 0 (k : Int) E H1) ∧ (∀ b ms, LayOk b ms → z = layText b ms → ∀ y H', H y = none → Same H H' → IsLay H' C y b ms → Q (.ref y) H'))
section
variable {P : Program} {w : World} {K : PySem.W.Frag} {mg : Str → Option Value} {base : Heap}
theorem sc__meaning_at : FnScope ["items", "at"] ["items", "at"] (defScope s__meaning_at) := ⟨rfl, rfl, rfl, by decide +kernel, rfl, by decide +kernel, by decide +kernel⟩
abbrev N__meaning_at : List Str := ["items", "at"]
theorem ok__meaning_at {f f1 f2 CT : Addr} {fd fd1 fd2 : FuncData} (F : Fun K "_meaning_at" "_meaning_at" s__meaning_at f fd) (T : Blt mg) (D_item_at : Df K mg "item_at" s_item_at ["items", "at"] f1 fd1) (D_integer_at : Df K mg "integer_at" s_integer_at ["items", "at", "least", "most"] f2 fd2) (G_item_at : FnOk P w K mg base (L2.CX P w) 3 f1 fd1 ["items", "at"] (spItemAt CT)) (G_integer_at : FnOk P w K mg base (L2.CX P w) 5 f2 fd2 ["items", "at", "least", "most"] (spIntAt CT)) : FnOk P w K mg base (L2.CX P w) 6 f fd ["items", "at"] (spMeanAtX CT) := by
  refine F.okX sc__meaning_at (fun vs H Q E h => ?_) (fun cdv A outer s H vs Q E hr h => ?_)
  · obtain ⟨q, ys, i, rfl, _⟩ := h
    rfl
  · obtain ⟨q, ys, i, rfl, hq, hL, k1, k2, k3⟩ := h
    refine ⟨_, (pss_cons (ps_if (pt_cmpR op_eq (pe_callS G_item_at (hr.mono (by decide)) (by rfl) D_item_at.g D_item_at.F.kp D_item_at.b (fun σ => passAt (takes_of rfl rfl rfl rfl) σ) (pa_cons (pv 0) (pa_cons (pv 1) pa_nil))) (pe_glob (v := .str "-") rfl T.g_NOTHING.choose_spec ⟨_, rfl⟩) (nomark _)) (pss_one (ps_ret pe_non)) pss_nil)
  (pss_one (ps_ret (pe_callS G_integer_at (hr.mono (by decide)) (by rfl) D_integer_at.g D_integer_at.F.kp D_integer_at.b (fun σ => passAt (takes_of rfl rfl rfl rfl) σ) (pa_cons (pv 0) (pa_cons (pv 1) (pa_cons pe_int (pa_cons (pe_glob (v := .int 63) rfl T.g_MOST_STATE.choose_spec ⟨_, rfl⟩) pa_nil)))))))), ?_⟩
    repeat (first | (refine ⟨q, ys, i, rfl, hq, ?_, k3⟩) | (with_reducible refine st_tC ?_) | (with_reducible refine st_tOp ?_) | ((with_reducible apply st_n); rfl; rfl; (first | trivial | (show _ ≤ _; omega) | (show _ < _; omega) | (show _ ∨ _; omega) | assumption | exact ⟨by assumption, by omega⟩ | exact ⟨W30.one, by omega⟩ | fail); rfl) | (with_reducible refine st_i0 rfl rfl rfl ?_) | ((with_reducible refine st_i rfl rfl ?_ rfl ?_); first | omega | exact ⟨by decide, by decide, by decide⟩ | exact .inl ⟨by decide, by decide⟩ | exact .inl ⟨by omega, by omega⟩ | exact .inr ⟨by omega, by omega⟩ | fail) | ((fail_if_success refine Exists.intro (α := Nat → Nat → L2.St → Hp → Prop) ?_ ?_); (fail_if_success refine Exists.intro (α := L2.St → Hp → Prop) ?_ ?_); (fail_if_success refine Exists.intro (α := Nat → L2.St → Hp → Prop) ?_ ?_); apply Exists.intro) | ((refine And.intro ?_ ?_); first | with_reducible rfl | with_reducible assumption | rfl | ((with_reducible apply SqL.of); assumption) | ((with_reducible apply SqT.of); assumption) | ((with_reducible apply OwnC.cl); assumption) | (with_reducible exact isI_int _) | exact within_args | (with_reducible exact upd_same) | ((with_reducible apply Mid.o); assumption) | ((with_reducible apply Mid.t); assumption) | exact .inl ⟨rfl, _, SqL.of (by assumption)⟩ | (with_reducible exact ⟨_, SqT.of (by assumption)⟩) | (with_reducible exact ⟨_, SqL.of (by assumption)⟩) | omega | exact Nat.le_of_ble_eq_true rfl | exact nat9 (by omega) | exact ⟨_, rfl⟩ | (show _ ≤ sizeLine; decide) | exact ⟨by decide, by decide, by decide⟩ | exact .inl ⟨by decide, by decide⟩ | exact .inl ⟨by omega, by omega⟩ | exact .inr ⟨by omega, by omega⟩ | assumption | fail) | ((with_reducible refine iteF' ?_ ?_); first | rfl | exact decide_eq_false (by omega) | exact in_no (by omega) (by omega) | exact in_no (by omega) (by assumption) | (simp <;> fail) | fail) | ((with_reducible refine iteT' ?_ ?_); first | rfl | exact decide_eq_true (by omega) | (simp <;> fail) | fail))
    intro y hy
    repeat (first | (with_reducible refine st_tC ?_) | (with_reducible refine st_tOp ?_) | ((with_reducible apply st_n); rfl; rfl; (first | trivial | (show _ ≤ _; omega) | (show _ < _; omega) | (show _ ∨ _; omega) | assumption | exact ⟨by assumption, by omega⟩ | exact ⟨W30.one, by omega⟩ | fail); rfl) | (with_reducible refine st_i0 rfl rfl rfl ?_) | ((with_reducible refine st_i rfl rfl ?_ rfl ?_); first | omega | exact ⟨by decide, by decide, by decide⟩ | exact .inl ⟨by decide, by decide⟩ | exact .inl ⟨by omega, by omega⟩ | exact .inr ⟨by omega, by omega⟩ | fail) | ((fail_if_success refine Exists.intro (α := Nat → Nat → L2.St → Hp → Prop) ?_ ?_); (fail_if_success refine Exists.intro (α := L2.St → Hp → Prop) ?_ ?_); (fail_if_success refine Exists.intro (α := Nat → L2.St → Hp → Prop) ?_ ?_); apply Exists.intro) | ((refine And.intro ?_ ?_); first | with_reducible rfl | with_reducible assumption | rfl | ((with_reducible apply SqL.of); assumption) | ((with_reducible apply SqT.of); assumption) | ((with_reducible apply OwnC.cl); assumption) | (with_reducible exact isI_int _) | exact within_args | (with_reducible exact upd_same) | ((with_reducible apply Mid.o); assumption) | ((with_reducible apply Mid.t); assumption) | exact .inl ⟨rfl, _, SqL.of (by assumption)⟩ | (with_reducible exact ⟨_, SqT.of (by assumption)⟩) | (with_reducible exact ⟨_, SqL.of (by assumption)⟩) | omega | exact Nat.le_of_ble_eq_true rfl | exact nat9 (by omega) | exact ⟨_, rfl⟩ | (show _ ≤ sizeLine; decide) | exact ⟨by decide, by decide, by decide⟩ | exact .inl ⟨by decide, by decide⟩ | exact .inl ⟨by omega, by omega⟩ | exact .inr ⟨by omega, by omega⟩ | assumption | fail) | ((with_reducible refine iteF' ?_ ?_); first | rfl | exact decide_eq_false (by omega) | exact in_no (by omega) (by omega) | exact in_no (by omega) (by assumption) | (simp <;> fail) | fail) | ((with_reducible refine iteT' ?_ ?_); first | rfl | exact decide_eq_true (by omega) | (simp <;> fail) | fail))
    by_cases c : y = "-"
    · refine iteT' (decide_eq_true (by rw [c])) ?_
      repeat (first | (with_reducible refine st_tC ?_) | (with_reducible refine st_tOp ?_) | ((with_reducible apply st_n); rfl; rfl; (first | trivial | (show _ ≤ _; omega) | (show _ < _; omega) | (show _ ∨ _; omega) | assumption | exact ⟨by assumption, by omega⟩ | exact ⟨W30.one, by omega⟩ | fail); rfl) | (with_reducible refine st_i0 rfl rfl rfl ?_) | ((with_reducible refine st_i rfl rfl ?_ rfl ?_); first | omega | exact ⟨by decide, by decide, by decide⟩ | exact .inl ⟨by decide, by decide⟩ | exact .inl ⟨by omega, by omega⟩ | exact .inr ⟨by omega, by omega⟩ | fail) | ((fail_if_success refine Exists.intro (α := Nat → Nat → L2.St → Hp → Prop) ?_ ?_); (fail_if_success refine Exists.intro (α := L2.St → Hp → Prop) ?_ ?_); (fail_if_success refine Exists.intro (α := Nat → L2.St → Hp → Prop) ?_ ?_); apply Exists.intro) | ((refine And.intro ?_ ?_); first | with_reducible rfl | with_reducible assumption | rfl | ((with_reducible apply SqL.of); assumption) | ((with_reducible apply SqT.of); assumption) | ((with_reducible apply OwnC.cl); assumption) | (with_reducible exact isI_int _) | exact within_args | (with_reducible exact upd_same) | ((with_reducible apply Mid.o); assumption) | ((with_reducible apply Mid.t); assumption) | exact .inl ⟨rfl, _, SqL.of (by assumption)⟩ | (with_reducible exact ⟨_, SqT.of (by assumption)⟩) | (with_reducible exact ⟨_, SqL.of (by assumption)⟩) | omega | exact Nat.le_of_ble_eq_true rfl | exact nat9 (by omega) | exact ⟨_, rfl⟩ | (show _ ≤ sizeLine; decide) | exact ⟨by decide, by decide, by decide⟩ | exact .inl ⟨by decide, by decide⟩ | exact .inl ⟨by omega, by omega⟩ | exact .inr ⟨by omega, by omega⟩ | assumption | fail) | ((with_reducible refine iteF' ?_ ?_); first | rfl | exact decide_eq_false (by omega) | exact in_no (by omega) (by omega) | exact in_no (by omega) (by assumption) | (simp <;> fail) | fail) | ((with_reducible refine iteT' ?_ ?_); first | rfl | exact decide_eq_true (by omega) | (simp <;> fail) | fail))
      exact k1 y none hy (by unfold mOf; rw [if_pos c])
    · refine iteF' (decide_eq_false fun z => c (V.str.inj z)) ?_
      have mo : mOf y = (numIn y 0 63).map some := by unfold mOf; rw [if_neg c]
      repeat (first | (refine ⟨q, ys, i, 0, 63, rfl, hq, hL, by decide, ?_, ?_, k3⟩) | (with_reducible refine st_tC ?_) | (with_reducible refine st_tOp ?_) | ((with_reducible apply st_n); rfl; rfl; (first | trivial | (show _ ≤ _; omega) | (show _ < _; omega) | (show _ ∨ _; omega) | assumption | exact ⟨by assumption, by omega⟩ | exact ⟨W30.one, by omega⟩ | fail); rfl) | (with_reducible refine st_i0 rfl rfl rfl ?_) | ((with_reducible refine st_i rfl rfl ?_ rfl ?_); first | omega | exact ⟨by decide, by decide, by decide⟩ | exact .inl ⟨by decide, by decide⟩ | exact .inl ⟨by omega, by omega⟩ | exact .inr ⟨by omega, by omega⟩ | fail) | ((fail_if_success refine Exists.intro (α := Nat → Nat → L2.St → Hp → Prop) ?_ ?_); (fail_if_success refine Exists.intro (α := L2.St → Hp → Prop) ?_ ?_); (fail_if_success refine Exists.intro (α := Nat → L2.St → Hp → Prop) ?_ ?_); apply Exists.intro) | ((refine And.intro ?_ ?_); first | with_reducible rfl | with_reducible assumption | rfl | ((with_reducible apply SqL.of); assumption) | ((with_reducible apply SqT.of); assumption) | ((with_reducible apply OwnC.cl); assumption) | (with_reducible exact isI_int _) | exact within_args | (with_reducible exact upd_same) | ((with_reducible apply Mid.o); assumption) | ((with_reducible apply Mid.t); assumption) | exact .inl ⟨rfl, _, SqL.of (by assumption)⟩ | (with_reducible exact ⟨_, SqT.of (by assumption)⟩) | (with_reducible exact ⟨_, SqL.of (by assumption)⟩) | omega | exact Nat.le_of_ble_eq_true rfl | exact nat9 (by omega) | exact ⟨_, rfl⟩ | (show _ ≤ sizeLine; decide) | exact ⟨by decide, by decide, by decide⟩ | exact .inl ⟨by decide, by decide⟩ | exact .inl ⟨by omega, by omega⟩ | exact .inr ⟨by omega, by omega⟩ | assumption | fail) | ((with_reducible refine iteF' ?_ ?_); first | rfl | exact decide_eq_false (by omega) | exact in_no (by omega) (by omega) | exact in_no (by omega) (by assumption) | (simp <;> fail) | fail) | ((with_reducible refine iteT' ?_ ?_); first | rfl | exact decide_eq_true (by omega) | (simp <;> fail) | fail))
      · intro y' n hy' hn l1 l2
        rw [hy] at hy'
        cases hy'
        exact k1 y (some n) hy (by rw [mo, numIn_is hn l1 l2]; rfl)
      · intro y' hy' hc
        rw [hy] at hy'
        cases hy'
        exact k2 y hy (by rw [mo, numIn_out hc]; rfl)
theorem sc_Layout_read : FnScope ["text", "items", "bits", "behind", "means", "at"] ["text"] (defScope s_Layout_read) := ⟨rfl, rfl, rfl, by decide +kernel, rfl, by decide +kernel, by decide +kernel⟩
abbrev N_Layout_read : List Str := ["text", "items", "bits", "behind", "means", "at"]
theorem ok_Layout_read {f f1 f2 f3 f4 fI C CT : Addr} {fd fd1 fd2 fd3 fd4 fdI : FuncData} (F : Fun K "read" "Layout.read" s_Layout_read f fd) (T : Blt mg) (O_Layout : OwnC K mg "Layout" C fI) (b_Layout_init : L2.Binds K fdI ["self", "bits", "means"] []) (G_Layout_init : FnOk P w K mg base CX0 4 fI fdI ["self", "bits", "means"] (spLayInit C))
    (D_items_of : Df K mg "items_of" s_items_of ["text"] f1 fd1) (G_items_of : FnOk P w K mg base (L2.CX P w) 3 f1 fd1 ["text"] (spItems K CT)) (D_integer_at : Df K mg "integer_at" s_integer_at ["items", "at", "least", "most"] f2 fd2) (G_integer_at : FnOk P w K mg base (L2.CX P w) 5 f2 fd2 ["items", "at", "least", "most"] (spIntAt CT)) (D_need_end : Df K mg "need_end" s_need_end ["items", "at"] f3 fd3) (G_need_end : FnOk P w K mg base (L2.CX P w) 3 f3 fd3 ["items", "at"] (spNeedEnd CT))
    (D__meaning_at : Df K mg "_meaning_at" s__meaning_at ["items", "at"] f4 fd4) (G__meaning_at : FnOk P w K mg base (L2.CX P w) 6 f4 fd4 ["items", "at"] (spMeanAtX CT)) : FnOk P w K mg base (L2.CX P w) 7 f fd ["text"] (spLRead K C CT) := by
  refine F.okX sc_Layout_read (fun vs H Q E h => ?_) (fun cdv A outer s H vs Q E hr h => ?_)
  · obtain ⟨x, rfl, _⟩ := h
    rfl
  · obtain ⟨x, rfl, h⟩ := h
    refine ⟨_, (pss_cons (ps_set (i := 1) sc_Layout_read.nd rfl (Or.inr rfl) (pe_callS G_items_of (hr.mono (by decide)) (by rfl) D_items_of.g D_items_of.F.kp D_items_of.b (fun σ => passAt (takes_of rfl rfl rfl rfl) σ) (pa_cons (pv 0) pa_nil)))
  (pss_cons (ps_set (i := 2) sc_Layout_read.nd rfl (Or.inl rfl) (pe_callS G_integer_at (hr.mono (by decide)) (by rfl) D_integer_at.g D_integer_at.F.kp D_integer_at.b (fun σ => passAt (takes_of rfl rfl rfl rfl) σ) (pa_cons (pv 1) (pa_cons pe_int (pa_cons pe_int (pa_cons (pe_glob (v := .int 8) rfl T.g_MOST_BITS.choose_spec ⟨_, rfl⟩) pa_nil))))))
  (pss_cons (ps_set (i := 3) sc_Layout_read.nd rfl (Or.inl rfl) (pe_op op_add pe_int (pe_op op_oneN pe_int (pv 2))))
  (pss_cons (ps_setLcE (i := 4) (own := [("at", 5)]) (g := (gName 5)) (tt := tYes) rfl rfl (takes_of rfl rfl rfl rfl) rfl sc_Layout_read.nd rfl rfl (sw_true rfl rfl rfl (by decide +kernel)) (pi_range2 (by rfl) T.n_range (pa_cons pe_int (pa_cons (pv 3) pa_nil))) (blkOk_by (N := N_Layout_read) (own := [("at", 5)]) (sc := defScope s_Layout_read) (by decide +kernel)) (fun _ _ _ _ _ => (pg_name (i := 5) sc_Layout_read.nd rfl (Or.inl rfl))) (fun _ _ _ _ _ => pts_nil) (fun _ _ _ _ _ => (pe_callS G__meaning_at (hr.mono (by decide)) (by rfl) D__meaning_at.g D__meaning_at.F.kp D__meaning_at.b (fun σ => passAtF σ) (pa_cons (pv 1) (pa_cons (pv 5) pa_nil)))))
  (pss_cons (ps_expr (pe_callS G_need_end (hr.mono (by decide)) (by rfl) D_need_end.g D_need_end.F.kp D_need_end.b (fun σ => passAt (takes_of rfl rfl rfl rfl) σ) (pa_cons (pv 1) (pa_cons (pv 3) pa_nil))))
  (pss_one (ps_ret (pe_make O_Layout.made G_Layout_init (hr.mono (by decide)) (by rfl) O_Layout.g b_Layout_init .nil pass0 (pa_cons (pv 2) (pa_cons (pv 4) pa_nil)))))))))), ?_⟩
    rcases h with ⟨hn, k⟩ | ⟨z, rfl, hz, k1, k2⟩
    · exact ⟨_, rfl, _, rfl, .inl ⟨hn, k⟩⟩
    refine ⟨_, rfl, _, rfl, .inr ⟨z, rfl, by rw [sizeLine_eq]; omega, fun q hq => ?_⟩⟩
    generalize hE : upd _ q _ = H1
    obtain ⟨S1, g_q⟩ : Same H H1 ∧ H1 q = some (.lst ((Txt.split z " ").map V.str)) := by
      subst hE
      exact ⟨same_new hq, upd_same⟩
    clear hE hq
    have hL : ∀ y ∈ Txt.split z " ", y.length ≤ 1000000 := fun y hy => by
      have := MN.split_short hy
      omega
    have e0 := stop_text (z := z)
    generalize hys : Txt.split z " " = ys at *
    refine ⟨_, rfl, q, ys, 0, 1, 8, rfl, g_q, hL, by decide, fun y b hy hn l1 l2 => ?_, fun y hy hc => k1 0 ?_ _ S1, fun hn => ?_⟩
    rotate_left
    · cases ys with
      | nil => cases hy
      | cons a r =>
        cases hy
        unfold stopL
        simp only
        rw [numIn_out hc]
    · cases ys with
      | nil => exact k1 0 rfl _ S1
      | cons a r => cases hn
    obtain ⟨r, rfl⟩ : ∃ r, ys = y :: r := by
      cases ys with
      | nil => cases hy
      | cons a r => cases hy; exact ⟨r, rfl⟩
    have c1 := numIn_is hn l1 l2
    have b8 : b ≤ 8 := by omega
    have p8 := pow8 b8
    have q8 : ((2 ^ b : Nat) : Int) ≤ 256 := by exact_mod_cast p8
    have q1 : (0 : Int) ≤ ((2 ^ b : Nat) : Int) := Int.natCast_nonneg _
    repeat (first | (with_reducible refine st_tC ?_) | (with_reducible refine st_tOp ?_) | ((with_reducible apply st_n); rfl; rfl; (first | trivial | (show _ ≤ _; omega) | (show _ < _; omega) | (show _ ∨ _; omega) | assumption | exact ⟨by assumption, by omega⟩ | exact ⟨W30.one, by omega⟩ | fail); rfl) | (with_reducible refine st_i0 rfl rfl rfl ?_) | ((with_reducible refine st_i rfl rfl ?_ rfl ?_); first | omega | exact ⟨by decide, by decide, by decide⟩ | exact .inl ⟨by decide, by decide⟩ | exact .inl ⟨by omega, by omega⟩ | exact .inr ⟨by omega, by omega⟩ | fail) | ((fail_if_success refine Exists.intro (α := Nat → Nat → L2.St → Hp → Prop) ?_ ?_); (fail_if_success refine Exists.intro (α := L2.St → Hp → Prop) ?_ ?_); (fail_if_success refine Exists.intro (α := Nat → L2.St → Hp → Prop) ?_ ?_); apply Exists.intro) | ((refine And.intro ?_ ?_); first | with_reducible rfl | with_reducible assumption | rfl | ((with_reducible apply SqL.of); assumption) | ((with_reducible apply SqT.of); assumption) | ((with_reducible apply OwnC.cl); assumption) | (with_reducible exact isI_int _) | exact within_args | (with_reducible exact upd_same) | ((with_reducible apply Mid.o); assumption) | ((with_reducible apply Mid.t); assumption) | exact .inl ⟨rfl, _, SqL.of (by assumption)⟩ | (with_reducible exact ⟨_, SqT.of (by assumption)⟩) | (with_reducible exact ⟨_, SqL.of (by assumption)⟩) | omega | exact Nat.le_of_ble_eq_true rfl | exact nat9 (by omega) | exact ⟨_, rfl⟩ | (show _ ≤ sizeLine; decide) | exact ⟨by decide, by decide, by decide⟩ | exact .inl ⟨by decide, by decide⟩ | exact .inl ⟨by omega, by omega⟩ | exact .inr ⟨by omega, by omega⟩ | assumption | fail) | ((with_reducible refine iteF' ?_ ?_); first | rfl | exact decide_eq_false (by omega) | exact in_no (by omega) (by omega) | exact in_no (by omega) (by assumption) | (simp <;> fail) | fail) | ((with_reducible refine iteT' ?_ ?_); first | rfl | exact decide_eq_true (by omega) | (simp <;> fail) | fail))
    intro D hD
    rw [show ((1 : Int) + ((2 ^ b : Nat) : Int) - 1).toNat = 2 ^ b by omega]
    have stop0 : ∀ w, fstBad (r.take (2 ^ b)) = w → stopL (y :: r) = (match w with | some i => some (1 + i) | none => if r.length = 2 ^ b then none else some (1 + min (2 ^ b) r.length)) := fun w e => by
      unfold stopL
      simp only
      rw [c1]
      simp only
      first | (rw [e]; done) | (rw [e]; cases w <;> rfl)
    refine lc_range (lo := 1) (n := 2 ^ b) (fun i H' => Same H1 H' ∧ ∃ ms : List (Option Nat), H' D = some (.lst (ms.map mv)) ∧ ms.length = i ∧ r.take i = ms.map mtx ∧ i ≤ r.length ∧ ∀ n, some n ∈ ms → n ≤ 63) ⟨same_new hD, [], upd_same, rfl, rfl, Nat.zero_le _, fun n h => by cases h⟩ ?_ ?_
    · rintro i H' hi ⟨S2, ms, g_D, lm, tk, il, hs⟩
      have before : ∀ j, j < i → ∃ y m, (r.take (2 ^ b))[j]? = some y ∧ mOf y = some m := fun j hj => by
        have hj2 : j < ms.length := by omega
        refine ⟨mtx ms[j], ms[j], ?_, mOf_mtx fun n e => hs n (e ▸ List.getElem_mem hj2)⟩
        rw [List.getElem?_take_of_lt (by omega)]
        have : (r.take i)[j]? = some (mtx ms[j]) := by rw [tk, List.getElem?_map, List.getElem?_eq_getElem hj2]; rfl
        rw [List.getElem?_take_of_lt hj] at this
        exact this
      have gq2 := S2 _ _ g_q
      refine ⟨rfl, _, rfl, _, rfl, q, y :: r, i + 1, ?_, gq2, hL, fun y' m hy' hm => ?_, fun y' hy' hm => ?_, fun hn' => ?_⟩
      · rw [show ((i + 1 : Nat) : Int) = 1 + (i : Int) by omega]
      · rw [List.getElem?_cons_succ] at hy'
        obtain ⟨a1, a2⟩ := mtx_mOf hm
        have ri := (List.getElem?_eq_some_iff.mp hy').1
        refine ⟨_, g_D, ?_, fun a o e => ?_, ms ++ [m], ?_, ?_, ?_, ri, fun n hn => ?_⟩
        · rw [List.length_map, sizeLine_eq]
          omega
        · rw [upd_ne (ne_of_none e hD)]
          exact S2 a o e
        · rw [upd_same, List.map_append]
          rfl
        · rw [List.length_append, lm]
          rfl
        · rw [List.take_add_one, hy', tk, List.map_append, a1]
          rfl
        · rcases List.mem_append.mp hn with z | z
          · exact hs n z
          · exact a2 n (List.mem_singleton.mp z).symm
      · rw [List.getElem?_cons_succ] at hy'
        have e := stop0 _ (fst_some (i := i) before ⟨y', by rw [List.getElem?_take_of_lt hi]; exact hy', hm⟩)
        have := k1 (1 + i) e _ (S1.trans S2)
        rw [Nat.add_comm] at this
        exact this
      · rw [List.getElem?_cons_succ] at hn'
        have rl : r.length = i := by
          have := List.getElem?_eq_none_iff.mp hn'
          omega
        have e := stop0 _ (fst_none (l := r.take (2 ^ b)) fun j hj => before j (by
          rw [List.length_take] at hj
          omega))
        rw [if_neg (by omega), show min (2 ^ b) r.length = r.length by omega] at e
        have := k1 (1 + r.length) e _ (S1.trans S2)
        rw [List.length_cons, Nat.add_comm]
        exact this
    · rintro H' ⟨S2, ms, g_D, lm, tk, il, hs⟩
      have gq2 := S2 _ _ g_q
      have allN : fstBad (r.take (2 ^ b)) = none := by rw [tk]; exact all_none ms hs
      have e := stop0 _ allN
      refine ⟨_, rfl, _, rfl, q, y :: r, 1 + 2 ^ b, ?_, gq2, fun hl => ?_, fun hl => ?_⟩
      · rw [Int.natCast_add]
        rfl
      · rw [List.length_cons] at hl
        rw [if_pos (by omega)] at e
        obtain ⟨b', ms', ok, ez, e2⟩ := e0 e
        have hyy := (List.cons.inj e2).1
        have hrr := (List.cons.inj e2).2
        have eb : b' = b := by
          have h1 := MN.num_ds (n := b') (by have := (ds_small b' (by have := ok.b8; omega)).2.2.2.1; omega)
          rw [← hyy, hn] at h1
          exact (Option.some.inj h1).symm
        subst eb
        have em : ms' = ms := by
          rw [List.take_of_length_le (by omega), hrr] at tk
          have key : ∀ l k : List (Option Nat), (∀ n, some n ∈ l → n ≤ 63) → (∀ n, some n ∈ k → n ≤ 63) → l.map mtx = k.map mtx → l = k := by
            intro l
            induction l with
            | nil => intro k _ _ h; cases k with
              | nil => rfl
              | cons _ _ => cases h
            | cons a l ih =>
              intro k h1 h2 h
              cases k with
              | nil => cases h
              | cons c k =>
                have ha := (List.cons.inj h).1
                have hb := (List.cons.inj h).2
                have e1 := mOf_mtx (m := a) fun n e => h1 n (e ▸ List.mem_cons_self)
                have e2 := mOf_mtx (m := c) fun n e => h2 n (e ▸ List.mem_cons_self)
                rw [ha, e2] at e1
                rw [ih k (fun n hn => h1 n (List.mem_cons_of_mem _ hn)) (fun n hn => h2 n (List.mem_cons_of_mem _ hn)) hb, Option.some.inj e1]
          exact key ms' ms ok.small hs tk
        subst em
        refine ⟨_, rfl, _, rfl, fun x dx nx ndx nex => ?_⟩
        exact make_lay ok (.inl g_D) nx ndx fun H3 S3 hc => k2 _ _ ok ez x H3 ((S1.trans S2).free nx) ((S1.trans S2).trans S3) hc
      · rw [List.length_cons] at hl
        rw [if_neg (by omega), show min (2 ^ b) r.length = 2 ^ b by omega] at e
        exact k1 _ e _ (S1.trans S2)
end
end K12
namespace K12
open PySem PySem.Spec PyProof.Rows L2 OB SkE LamX
/-- the signs that are no digits -/
def odds (l : List Nat) : List Nat := l.filter fun c => !MT.dig c
def signs (l : List Nat) : List V := l.map fun c => V.str ⟨#[c]⟩
def signD (l : List Nat) : PyData := .list (l.map fun c => PyData.str ⟨#[c]⟩)
theorem dp_signs {K : PySem.W.Frag} {H : Hp} : ∀ l : List Nat, DpAll K H (signs l) (l.map fun c => PyData.str ⟨#[c]⟩)
  | [] => .nil
  | c :: r => .cons (.str _) (dp_signs r)
theorem sign_flat : ∀ l : List Nat, (∀ c ∈ l, c < 256) → PyData.canLayAll0 (l.map fun c => PyData.str ⟨#[c]⟩) = true ∧ PyData.depthAll (l.map fun c => PyData.str ⟨#[c]⟩) ≤ 1
  | [], _ => by simp [PyData.canLayAll0, PyData.depthAll]
  | c :: r, h => by
    obtain ⟨h1, h2⟩ := sign_flat r fun x hx => h x (List.mem_cons_of_mem _ hx)
    have hc := h c List.mem_cons_self
    have ok : PyData.strOk ⟨#[c]⟩ = true := by
      unfold PyData.strOk
      simp
      omega
    refine ⟨by simp [PyData.canLayAll0, PyData.canLay0, h1, ok], ?_⟩
    simp only [List.map_cons, PyData.depthAll, PyData.depth]
    omega
theorem sign_shaped {l : List Nat} (h : ∀ c ∈ l, c < 256) : SeqAt.shaped (signD l) = true := by
  obtain ⟨h1, h2⟩ := sign_flat l h
  unfold SeqAt.shaped
  rw [Bool.and_eq_true]
  refine ⟨by simp [signD, PyData.canLay0, h1], decide_eq_true ?_⟩
  simp only [signD, PyData.depth]
  omega
theorem sign_nil (l : List Nat) : PyData.eqv (signD l) (.list []) = decide (l = []) := by
  cases l with
  | nil => simp [signD, PyData.eqv, PyData.eqvAll]
  | cons n r => simp [signD, PyData.eqv, PyData.eqvAll]
theorem odds_nil {l : List Nat} (h : odds l = []) (ne : l ≠ []) : MT.digs l = true := by
  unfold MT.digs
  rw [Bool.and_eq_true]
  constructor
  · cases l with
    | nil => exact absurd rfl ne
    | cons a r => rfl
  · rw [List.all_eq_true]
    intro c hc
    cases e : MT.dig c with
    | true => rfl
    | false =>
      have : c ∈ odds l := List.mem_filter.mpr ⟨hc, by rw [e]; rfl⟩
      rw [h] at this
      exact absurd this List.not_mem_nil
theorem odds_ne {l : List Nat} (h : odds l ≠ []) : MT.digs l = false := by
  cases e : MT.digs l with
  | false => rfl
  | true =>
    refine absurd (List.filter_eq_nil_iff.mpr fun c hc => ?_) h
    unfold MT.digs at e
    rw [Bool.and_eq_true] at e
    rw [List.all_eq_true.mp e.2 c hc]
    decide
theorem sign_in (c : Nat) : decide (c ∈ ("0123456789" : Str).cps.toList) = MT.dig c := by
  rw [← MT.in_digits, StrLaws.found_one]
theorem int_txt {y : Str} {n : Nat} (h : MN.num y = some n) : intText? y = some (n : Int) ∧ y.length ≤ 140 := by
  unfold MN.num at h
  split at h
  · rename_i e
    cases h
    exact ⟨MT.int_pos y e.1 (by omega), e.2.1⟩
  · cases h
theorem cs_from1 (z : Str) : MT.cs (cutS z (some 1) none) = (MT.cs z).drop 1 := by
  have e : HT.sIx z.length 0 (some 1) = min 1 z.length := HT.sIx_nat _ _ 1
  have l : (MT.cs z).length = z.length := MT.len_cs z
  show ((z.cps.toList.drop _).take _).toArray.toList = _
  rw [e, show HT.sIx z.length z.length none = z.length from rfl]
  show ((MT.cs z).drop _).take _ = _
  rw [List.take_of_length_le (by rw [List.length_drop]; omega)]
  by_cases c : 1 ≤ z.length
  · rw [Nat.min_eq_left c]
  · have : MT.cs z = [] := List.eq_nil_of_length_eq_zero (by omega)
    rw [this]
    simp
theorem cs_to1 (z : Str) : MT.cs (cutS z none (some 1)) = (MT.cs z).take 1 := by
  have e : HT.sIx z.length z.length (some 1) = min 1 z.length := HT.sIx_nat _ _ 1
  have l : (MT.cs z).length = z.length := MT.len_cs z
  show ((z.cps.toList.drop _).take _).toArray.toList = _
  rw [e, show HT.sIx z.length 0 none = 0 from rfl]
  show ((MT.cs z).drop 0).take _ = _
  rw [List.drop_zero, Nat.sub_zero]
  by_cases c : 1 ≤ z.length
  · rw [Nat.min_eq_left c]
  · have : MT.cs z = [] := List.eq_nil_of_length_eq_zero (by omega)
    rw [this]
    simp
theorem minus_to1 (z : Str) : cutS z none (some 1) = "-" ↔ (MT.cs z).head? = some 45 := by
  have h45 : MT.cs ("-" : Str) = [45] := by decide +kernel
  constructor
  · intro h
    have := cs_to1 z
    rw [h, h45] at this
    cases e : MT.cs z with
    | nil => rw [e] at this; cases this
    | cons a r => rw [e] at this; cases this; rfl
  · intro h
    refine MT.str_ext ?_
    rw [cs_to1, h45]
    cases e : MT.cs z with
    | nil => rw [e] at h; cases h
    | cons a r => rw [e] at h; cases h; rfl
structure Hid (P : Prop) : Prop where
  h : P
def oN : Option Nat → V
  | none => .non
  | some n => .int (n : Int)
/-- the law's own reading of a number's text -/
def spLInt : Sp := fun vs H Q _ => ∃ (z : Str), vs = [.str z] ∧ z.length ≤ 100000 ∧ MN.asc z ∧ ∀ H', Same H H' → Q (oI (MT.intOf z)) H'
def spWithin : Sp := fun vs H Q _ => ∃ (z : Str) (lo hi : Int), vs = [.str z, .int lo, .int hi] ∧ 0 ≤ lo ∧ z.length ≤ 100000 ∧ MN.asc z ∧ ∀ H', Same H H' → Q (.bl (MN.inR z lo hi)) H'
def spStop : Sp := fun vs H Q _ => ∃ (q : Addr) (ys : List Str), vs = [.ref q] ∧ H q = some (.lst (ys.map V.str)) ∧ ys ≠ [] ∧ (∀ y ∈ ys, y.length ≤ 100000 ∧ MN.asc y) ∧ ∀ H', Same H H' → Q (oN (stopL ys)) H'
section
variable {P : Program} {w : World} {K : PySem.W.Frag} {mg : Str → Option Value} {base : Heap}
theorem sc__law_integer : FnScope ["item", "digits", "sign"] ["item"] (defScope s__law_integer) := ⟨rfl, rfl, rfl, by decide +kernel, rfl, by decide +kernel, by decide +kernel⟩
abbrev N__law_integer : List Str := ["item", "digits", "sign"]
theorem ok__law_integer {f : Addr} {fd : FuncData} (F : Fun K "_law_integer" "_law_integer" s__law_integer f fd) (T : Blt mg) : FnOk P w K mg base CX0 1 f fd ["item"] spLInt := by
  refine F.ok sc__law_integer (fun vs H Q E h => ?_) (fun cdv A outer s H vs Q E hr h => ?_)
  · obtain ⟨z, rfl, _⟩ := h
    rfl
  · obtain ⟨z, rfl, hz, hA, k⟩ := h
    refine ⟨_, (C8.pss_cut (ps_set (i := 1) sc__law_integer.nd rfl (Or.inl rfl) (pe_ifExp (pt_cmpR op_eq (pe_slice sl_str (pv 0) po_none (po_some pe_int)) pe_str (nomark _)) (pe_slice sl_str (pv 0) (po_some pe_int) po_none) (pv 0)))
  (pss_cons (ps_if (PW.pt (pw_or (pt_cmpR op_eq (pv 1) pe_str (nomark _)) (pw_or (pt_cmpR op_gt (pe_callB call_len_str (by rfl) T.n_len (by decide +kernel) (pa_cons (pv 1) pa_nil)) pe_int (nomark _)) (pw_or1 (pt_cmpR (op_neD hr.units) (pe_lc (own := [("sign", 2)]) (g := (gName 2)) rfl sc__law_integer.nd (pi_str (pv 1)) (blkOk_by (N := N__law_integer) (own := [("sign", 2)]) (sc := defScope s__law_integer) (by decide +kernel)) (fun _ _ _ _ _ => (pg_name (i := 2) sc__law_integer.nd rfl (Or.inl rfl))) (fun _ _ _ _ _ => (pts_one (pt_cmpR op_notIn_sign (pv 2) pe_str (by rfl)))) (fun _ _ _ _ _ => (pv 2))) (pe_lst pa_nil) (nomark _)))))) (pss_one (ps_ret pe_non)) pss_nil)
  (pss_one (ps_ret (pe_ifExp (PW.pt (pw_or (pt_cmpR op_ne (pe_ix ix_str (pv 1) pe_int (fun _ _ => rfl)) pe_str (nomark _)) (pw_or1 (pt_cmpR op_eq (pv 0) pe_str (nomark _))))) (pe_callTy call_int_str (by rfl) T.n_int (by decide +kernel) (pa_cons (pv 0) pa_nil)) pe_non))))), ?_⟩
    have no : MT.intOf z = none → ∀ H', Same H H' → Q .non H' := fun e H' S => by
      have := k H' S
      rw [e] at this
      exact this
    have hz1 : z.length ≤ sizeLine := by rw [sizeLine_eq]; omega
    refine ⟨fun σ' H' => H' = H ∧ Hid (∃ y : Str, σ' = [some (.str z), some (.str y), none] ∧ MT.cs y = MT.behind (MT.cs z)), ?_, ?_⟩
    · repeat (first | (with_reducible refine st_tC ?_) | (with_reducible refine st_tOp ?_) | ((with_reducible apply st_n); rfl; rfl; (first | trivial | (show _ ≤ _; omega) | (show _ < _; omega) | (show _ ∨ _; omega) | assumption | exact ⟨by assumption, by omega⟩ | exact ⟨W30.one, by omega⟩ | fail); rfl) | (with_reducible refine st_i0 rfl rfl rfl ?_) | ((with_reducible refine st_i rfl rfl ?_ rfl ?_); first | omega | exact ⟨by decide, by decide, by decide⟩ | exact .inl ⟨by decide, by decide⟩ | exact .inl ⟨by omega, by omega⟩ | exact .inr ⟨by omega, by omega⟩ | fail) | ((fail_if_success refine Exists.intro (α := Nat → Nat → L2.St → Hp → Prop) ?_ ?_); (fail_if_success refine Exists.intro (α := L2.St → Hp → Prop) ?_ ?_); (fail_if_success refine Exists.intro (α := Nat → L2.St → Hp → Prop) ?_ ?_); apply Exists.intro) | ((refine And.intro ?_ ?_); first | with_reducible rfl | with_reducible assumption | rfl | ((with_reducible apply SqL.of); assumption) | ((with_reducible apply SqT.of); assumption) | ((with_reducible apply OwnC.cl); assumption) | (with_reducible exact isI_int _) | exact within_args | (with_reducible exact upd_same) | ((with_reducible apply Mid.o); assumption) | ((with_reducible apply Mid.t); assumption) | exact .inl ⟨rfl, _, SqL.of (by assumption)⟩ | (with_reducible exact ⟨_, SqT.of (by assumption)⟩) | (with_reducible exact ⟨_, SqL.of (by assumption)⟩) | omega | exact Nat.le_of_ble_eq_true rfl | exact nat9 (by omega) | exact ⟨_, rfl⟩ | (show _ ≤ sizeLine; decide) | exact ⟨by decide, by decide, by decide⟩ | exact .inl ⟨by decide, by decide⟩ | exact .inl ⟨by omega, by omega⟩ | exact .inr ⟨by omega, by omega⟩ | assumption | fail) | ((with_reducible refine iteF' ?_ ?_); first | rfl | exact decide_eq_false (by omega) | exact in_no (by omega) (by omega) | exact in_no (by omega) (by assumption) | (simp <;> fail) | fail) | ((with_reducible refine iteT' ?_ ?_); first | rfl | exact decide_eq_true (by omega) | (simp <;> fail) | fail))
      show if decide (V.str (cutS z none (some 1)) = V.str "-") = true then _ else _
      refine ite2 (fun c => ?_) (fun c => ?_)
      · have c := (minus_to1 z).mp (V.str.inj (of_decide_eq_true c))
        repeat (first | (with_reducible refine st_tC ?_) | (with_reducible refine st_tOp ?_) | ((with_reducible apply st_n); rfl; rfl; (first | trivial | (show _ ≤ _; omega) | (show _ < _; omega) | (show _ ∨ _; omega) | assumption | exact ⟨by assumption, by omega⟩ | exact ⟨W30.one, by omega⟩ | fail); rfl) | (with_reducible refine st_i0 rfl rfl rfl ?_) | ((with_reducible refine st_i rfl rfl ?_ rfl ?_); first | omega | exact ⟨by decide, by decide, by decide⟩ | exact .inl ⟨by decide, by decide⟩ | exact .inl ⟨by omega, by omega⟩ | exact .inr ⟨by omega, by omega⟩ | fail) | ((fail_if_success refine Exists.intro (α := Nat → Nat → L2.St → Hp → Prop) ?_ ?_); (fail_if_success refine Exists.intro (α := L2.St → Hp → Prop) ?_ ?_); (fail_if_success refine Exists.intro (α := Nat → L2.St → Hp → Prop) ?_ ?_); apply Exists.intro) | ((refine And.intro ?_ ?_); first | with_reducible rfl | with_reducible assumption | rfl | ((with_reducible apply SqL.of); assumption) | ((with_reducible apply SqT.of); assumption) | ((with_reducible apply OwnC.cl); assumption) | (with_reducible exact isI_int _) | exact within_args | (with_reducible exact upd_same) | ((with_reducible apply Mid.o); assumption) | ((with_reducible apply Mid.t); assumption) | exact .inl ⟨rfl, _, SqL.of (by assumption)⟩ | (with_reducible exact ⟨_, SqT.of (by assumption)⟩) | (with_reducible exact ⟨_, SqL.of (by assumption)⟩) | omega | exact Nat.le_of_ble_eq_true rfl | exact nat9 (by omega) | exact ⟨_, rfl⟩ | (show _ ≤ sizeLine; decide) | exact ⟨by decide, by decide, by decide⟩ | exact .inl ⟨by decide, by decide⟩ | exact .inl ⟨by omega, by omega⟩ | exact .inr ⟨by omega, by omega⟩ | assumption | fail) | ((with_reducible refine iteF' ?_ ?_); first | rfl | exact decide_eq_false (by omega) | exact in_no (by omega) (by omega) | exact in_no (by omega) (by assumption) | (simp <;> fail) | fail) | ((with_reducible refine iteT' ?_ ?_); first | rfl | exact decide_eq_true (by omega) | (simp <;> fail) | fail))
        refine ⟨_, rfl, ?_⟩
        rw [cs_from1]
        revert c
        cases MT.cs z with
        | nil => exact fun c => nomatch c
        | cons a r => exact fun c => by cases c; rfl
      · have c : (MT.cs z).head? ≠ some 45 := fun h => c (decide_eq_true (by rw [(minus_to1 z).mpr h]))
        repeat (first | (with_reducible refine st_tC ?_) | (with_reducible refine st_tOp ?_) | ((with_reducible apply st_n); rfl; rfl; (first | trivial | (show _ ≤ _; omega) | (show _ < _; omega) | (show _ ∨ _; omega) | assumption | exact ⟨by assumption, by omega⟩ | exact ⟨W30.one, by omega⟩ | fail); rfl) | (with_reducible refine st_i0 rfl rfl rfl ?_) | ((with_reducible refine st_i rfl rfl ?_ rfl ?_); first | omega | exact ⟨by decide, by decide, by decide⟩ | exact .inl ⟨by decide, by decide⟩ | exact .inl ⟨by omega, by omega⟩ | exact .inr ⟨by omega, by omega⟩ | fail) | ((fail_if_success refine Exists.intro (α := Nat → Nat → L2.St → Hp → Prop) ?_ ?_); (fail_if_success refine Exists.intro (α := L2.St → Hp → Prop) ?_ ?_); (fail_if_success refine Exists.intro (α := Nat → L2.St → Hp → Prop) ?_ ?_); apply Exists.intro) | ((refine And.intro ?_ ?_); first | with_reducible rfl | with_reducible assumption | rfl | ((with_reducible apply SqL.of); assumption) | ((with_reducible apply SqT.of); assumption) | ((with_reducible apply OwnC.cl); assumption) | (with_reducible exact isI_int _) | exact within_args | (with_reducible exact upd_same) | ((with_reducible apply Mid.o); assumption) | ((with_reducible apply Mid.t); assumption) | exact .inl ⟨rfl, _, SqL.of (by assumption)⟩ | (with_reducible exact ⟨_, SqT.of (by assumption)⟩) | (with_reducible exact ⟨_, SqL.of (by assumption)⟩) | omega | exact Nat.le_of_ble_eq_true rfl | exact nat9 (by omega) | exact ⟨_, rfl⟩ | (show _ ≤ sizeLine; decide) | exact ⟨by decide, by decide, by decide⟩ | exact .inl ⟨by decide, by decide⟩ | exact .inl ⟨by omega, by omega⟩ | exact .inr ⟨by omega, by omega⟩ | assumption | fail) | ((with_reducible refine iteF' ?_ ?_); first | rfl | exact decide_eq_false (by omega) | exact in_no (by omega) (by omega) | exact in_no (by omega) (by assumption) | (simp <;> fail) | fail) | ((with_reducible refine iteT' ?_ ?_); first | rfl | exact decide_eq_true (by omega) | (simp <;> fail) | fail))
        exact ⟨_, rfl, (MN.behind_not c).symm⟩
    rintro _ H1 ⟨rfl, ⟨y, rfl, ey⟩⟩
    have yl : y.length ≤ z.length := by
      rw [← MT.len_cs, ← MT.len_cs, ey]
      unfold MT.behind
      split
      · rename_i e
        rw [e]
        exact Nat.le_succ _
      · exact Nat.le_refl _
    have yA : ∀ c ∈ MT.cs y, c < 256 := fun c hc => by
      rw [ey] at hc
      unfold MT.behind at hc
      split at hc
      · rename_i e
        exact hA c (by rw [e]; exact List.mem_cons_of_mem _ hc)
      · exact hA c hc
    have yd : y.length = (MT.behind (MT.cs z)).length := by rw [← ey, MT.len_cs]
    have hy1 : y.length ≤ sizeLine := by omega
    have intn : ¬ (MT.digs (MT.behind (MT.cs z)) = true ∧ (MT.behind (MT.cs z)).length ≤ 140 ∧ ((MT.behind (MT.cs z)).head? = some 48 → z = "0")) → MT.intOf z = none := fun c => by
      unfold MT.intOf
      exact if_neg c
    rw [← ey] at intn
    by_cases e0 : y = ""
    · have n0 : MT.cs y = [] := by rw [e0]; decide +kernel
      refine ⟨_, rfl, rfl, _, rfl, iteT' (decide_eq_true (by rw [e0])) (iteT (no (intn fun e => ?_) _ (.refl _)))⟩
      rw [n0] at e
      exact MT.digs_ne e.1 rfl
    refine ⟨_, rfl, rfl, _, rfl, iteF' (decide_eq_false fun h => e0 (V.str.inj h)) ?_⟩
    have ne : MT.cs y ≠ [] := fun h => e0 (MT.str_ext (by rw [h]; decide +kernel))
    refine ⟨_, rfl, _, rfl, hy1, _, _, rfl, rfl, _, rfl, ?_⟩
    refine ite2 (fun c => ?_) (fun c => ?_)
    · rw [decide_eq_true_iff] at c
      exact iteT (no (intn fun e => by rw [MT.len_cs] at e; omega) _ (.refl _))
    rw [decide_eq_true_iff] at c
    refine ⟨_, rfl, y, rfl, fun D hD => ?_⟩
    have zs : (MT.cs y).length = y.length := MT.len_cs y
    refine lc_it (walk_str (z := y)) (fun i H' => Same H1 H' ∧ H' D = some (.lst (signs (odds ((MT.cs y).take i))))) ⟨same_new hD, upd_same⟩ (fun _ _ _ _ => trivial) ?_ ?_
    · rintro i x H0 H2 hi ⟨S1, h1⟩ ⟨rfl, c', hc', rfl⟩
      have hci : (MT.cs y)[i]? = some c' := by
        rw [← hc']
        exact Array.getElem?_toList ..
      have tk : (MT.cs y).take (i + 1) = (MT.cs y).take i ++ [c'] := by rw [List.take_add_one, hci]; rfl
      refine ⟨rfl, ?_⟩
      refine ⟨_, rfl, c', _, rfl, rfl, _, rfl, ?_⟩
      rw [sign_in]
      cases e : MT.dig c' with
      | true =>
        refine iteF ⟨S1, ?_⟩
        rw [h1, tk]
        unfold odds
        rw [List.filter_append]
        simp [e]
      | false =>
        refine iteT ⟨_, rfl, _, h1, ?_, fun a o ea => ?_, ?_⟩
        · have := List.length_filter_le (fun c => !MT.dig c) ((MT.cs y).take i)
          unfold signs odds
          rw [List.length_map, sizeLine_eq]
          rw [List.length_take] at this
          omega
        · rw [upd_ne (ne_of_none ea hD)]
          exact S1 a o ea
        · rw [upd_same, tk]
          unfold odds
          rw [List.filter_append]
          simp [e, signs]
    · rintro H2 ⟨S1, h1⟩
      rw [show y.cps.size = (MT.cs y).length by rw [zs]; rfl, List.take_length] at h1
      refine ⟨Nat.zero_le _, fun l hl => ?_⟩
      have S2 := same_new (o := .lst []) hl
      have ob : ∀ c ∈ odds (MT.cs y), c < 256 := fun c hc => yA c (List.mem_filter.mp hc).1
      refine ⟨signD (odds (MT.cs y)), .list [], Dp.lst (SqL.of (S2 _ _ h1)) (dp_signs _), Dp.lst (SqL.of upd_same) .nil, sign_shaped ob, by decide +kernel, _, rfl, ?_⟩
      rw [sign_nil]
      by_cases od : odds (MT.cs y) = []
      · rw [decide_eq_true od]
        refine iteF ?_
        have dg := odds_nil od ne
        cases ez : MT.cs y with
        | nil => exact absurd ez ne
        | cons a r =>
        have at0 : atI y.cps.toList 0 = some a := by
          show atI (MT.cs y) 0 = some a
          rw [ez]
          exact atI_nat (j := 0) rfl
        refine ⟨_, rfl, y, 0, a, rfl, rfl, hy1, at0, rfl, _, rfl, ?_⟩
        have S3 := S1.trans S2
        have zl : z.length ≤ 141 := by
          rw [← MT.len_cs] at *
          unfold MT.behind at yd
          split at yd
          · rename_i e
            rw [e, List.length_cons]
            omega
          · omega
        have last : (a = 48 → z = "0") → tCB (fun xs H Q => ∃ a n, xs = [V.str a] ∧ intText? a = some n ∧ a.length ≤ 640 ∧ Q (V.int n) H) (tCons (tVar 0) tNil) [some (.str z), some (.str y), none] (upd H2 l (HO.lst [])) Q := fun h3 => by
          have h3' : (MT.behind (MT.cs z)).head? = some 48 → z = "0" := fun w => by
            rw [← ey, ez] at w
            exact h3 (Option.some.inj w)
          obtain ⟨v, e1, e2⟩ := MN.int_ok (by rw [← ey]; exact dg) (by omega) h3' (by omega)
          have kk := k _ S3
          rw [e1] at kk
          exact ⟨_, rfl, _, _, rfl, e2, by omega, kk⟩
        by_cases ea : a = 48
        · refine iteF' (by rw [ea]; decide +kernel) ⟨_, rfl, rfl, _, rfl, ?_⟩
          by_cases e1 : z = "0"
          · exact iteT' (by rw [e1]; decide) (last fun _ => e1)
          · exact iteF' (decide_eq_false (fun h => e1 (V.str.inj h))) (no (intn fun e => e1 (e.2.2 (by rw [ez, ea]; rfl))) _ S3)
        · exact iteT' (by
            have h0 : decide (V.str ⟨#[a]⟩ = V.str "0") = false := decide_eq_false fun h => ea (by
              have h := congrArg (fun s : Str => s.cps.toList) (V.str.inj h)
              have h : [a] = [48] := h.trans (by decide +kernel)
              exact (List.cons.inj h).1)
            rw [h0]
            rfl) (last fun z => absurd z ea)
      · rw [decide_eq_false od]
        exact iteT (no (intn fun e => by rw [odds_ne od] at e; exact nomatch e.1) _ (S1.trans S2))
theorem sc__law_within : FnScope ["item", "least", "most", "number"] ["item", "least", "most"] (defScope s__law_within) := ⟨rfl, rfl, rfl, by decide +kernel, rfl, by decide +kernel, by decide +kernel⟩
abbrev N__law_within : List Str := ["item", "least", "most", "number"]
theorem ok__law_within {f f1 : Addr} {fd fd1 : FuncData} (F : Fun K "_law_within" "_law_within" s__law_within f fd) (T : Blt mg) (D__law_integer : Df K mg "_law_integer" s__law_integer ["item"] f1 fd1) : FnOk P w K mg base CX0 2 f fd ["item", "least", "most"] spWithin := by
  have G__law_integer : FnOk P w K mg base CX0 1 f1 fd1 ["item"] spLInt := ok__law_integer D__law_integer.F T
  refine F.ok sc__law_within (fun vs H Q E h => ?_) (fun cdv A outer s H vs Q E hr h => ?_)
  · obtain ⟨z, lo, hi, rfl, _⟩ := h
    rfl
  · obtain ⟨z, lo, hi, rfl, l0, hz, hA, k⟩ := h
    refine ⟨_, (pss_cons (ps_set (i := 3) sc__law_within.nd rfl (Or.inl rfl) (pe_call G__law_integer (hr.mono (by decide)) (by rfl) D__law_integer.g D__law_integer.F.kp D__law_integer.b .nil pass0 (pa_cons (pv 0) pa_nil)))
  (pss_one (ps_ret (pe_and (pe_cmpR op_notN (pv 3) pe_non (nomark _)) (pe_one (pe_chain op_le op_le (pv 1) (pv 3) (pv 2))))))), ?_⟩
    refine ⟨_, rfl, z, rfl, hz, hA, fun H1 S1 => ?_⟩
    have e := MN.int_num (s := z) (lo := lo) (hi := hi) l0
    have kk := k _ S1
    rw [← e] at kk
    cases ei : MT.intOf z with
    | none =>
      rw [ei] at kk
      repeat (first | (with_reducible refine st_tC ?_) | (with_reducible refine st_tOp ?_) | ((with_reducible apply st_n); rfl; rfl; (first | trivial | (show _ ≤ _; omega) | (show _ < _; omega) | (show _ ∨ _; omega) | assumption | exact ⟨by assumption, by omega⟩ | exact ⟨W30.one, by omega⟩ | fail); rfl) | (with_reducible refine st_i0 rfl rfl rfl ?_) | ((with_reducible refine st_i rfl rfl ?_ rfl ?_); first | omega | exact ⟨by decide, by decide, by decide⟩ | exact .inl ⟨by decide, by decide⟩ | exact .inl ⟨by omega, by omega⟩ | exact .inr ⟨by omega, by omega⟩ | fail) | ((fail_if_success refine Exists.intro (α := Nat → Nat → L2.St → Hp → Prop) ?_ ?_); (fail_if_success refine Exists.intro (α := L2.St → Hp → Prop) ?_ ?_); (fail_if_success refine Exists.intro (α := Nat → L2.St → Hp → Prop) ?_ ?_); apply Exists.intro) | ((refine And.intro ?_ ?_); first | with_reducible rfl | with_reducible assumption | rfl | ((with_reducible apply SqL.of); assumption) | ((with_reducible apply SqT.of); assumption) | ((with_reducible apply OwnC.cl); assumption) | (with_reducible exact isI_int _) | exact within_args | (with_reducible exact upd_same) | ((with_reducible apply Mid.o); assumption) | ((with_reducible apply Mid.t); assumption) | exact .inl ⟨rfl, _, SqL.of (by assumption)⟩ | (with_reducible exact ⟨_, SqT.of (by assumption)⟩) | (with_reducible exact ⟨_, SqL.of (by assumption)⟩) | omega | exact Nat.le_of_ble_eq_true rfl | exact nat9 (by omega) | exact ⟨_, rfl⟩ | (show _ ≤ sizeLine; decide) | exact ⟨by decide, by decide, by decide⟩ | exact .inl ⟨by decide, by decide⟩ | exact .inl ⟨by omega, by omega⟩ | exact .inr ⟨by omega, by omega⟩ | assumption | fail) | ((with_reducible refine iteF' ?_ ?_); first | rfl | exact decide_eq_false (by omega) | exact in_no (by omega) (by omega) | exact in_no (by omega) (by assumption) | (simp <;> fail) | fail) | ((with_reducible refine iteT' ?_ ?_); first | rfl | exact decide_eq_true (by omega) | (simp <;> fail) | fail))
      exact kk
    | some v =>
      rw [ei] at kk
      replace kk : Q (.bl (decide (lo ≤ v) && decide (v ≤ hi))) H1 := kk
      repeat (first | (with_reducible refine st_tC ?_) | (with_reducible refine st_tOp ?_) | ((with_reducible apply st_n); rfl; rfl; (first | trivial | (show _ ≤ _; omega) | (show _ < _; omega) | (show _ ∨ _; omega) | assumption | exact ⟨by assumption, by omega⟩ | exact ⟨W30.one, by omega⟩ | fail); rfl) | (with_reducible refine st_i0 rfl rfl rfl ?_) | ((with_reducible refine st_i rfl rfl ?_ rfl ?_); first | omega | exact ⟨by decide, by decide, by decide⟩ | exact .inl ⟨by decide, by decide⟩ | exact .inl ⟨by omega, by omega⟩ | exact .inr ⟨by omega, by omega⟩ | fail) | ((fail_if_success refine Exists.intro (α := Nat → Nat → L2.St → Hp → Prop) ?_ ?_); (fail_if_success refine Exists.intro (α := L2.St → Hp → Prop) ?_ ?_); (fail_if_success refine Exists.intro (α := Nat → L2.St → Hp → Prop) ?_ ?_); apply Exists.intro) | ((refine And.intro ?_ ?_); first | with_reducible rfl | with_reducible assumption | rfl | ((with_reducible apply SqL.of); assumption) | ((with_reducible apply SqT.of); assumption) | ((with_reducible apply OwnC.cl); assumption) | (with_reducible exact isI_int _) | exact within_args | (with_reducible exact upd_same) | ((with_reducible apply Mid.o); assumption) | ((with_reducible apply Mid.t); assumption) | exact .inl ⟨rfl, _, SqL.of (by assumption)⟩ | (with_reducible exact ⟨_, SqT.of (by assumption)⟩) | (with_reducible exact ⟨_, SqL.of (by assumption)⟩) | omega | exact Nat.le_of_ble_eq_true rfl | exact nat9 (by omega) | exact ⟨_, rfl⟩ | (show _ ≤ sizeLine; decide) | exact ⟨by decide, by decide, by decide⟩ | exact .inl ⟨by decide, by decide⟩ | exact .inl ⟨by omega, by omega⟩ | exact .inr ⟨by omega, by omega⟩ | assumption | fail) | ((with_reducible refine iteF' ?_ ?_); first | rfl | exact decide_eq_false (by omega) | exact in_no (by omega) (by omega) | exact in_no (by omega) (by assumption) | (simp <;> fail) | fail) | ((with_reducible refine iteT' ?_ ?_); first | rfl | exact decide_eq_true (by omega) | (simp <;> fail) | fail))
      by_cases c1 : lo ≤ v
      · rw [decide_eq_true c1] at kk
        exact iteT' (decide_eq_true c1) ⟨_, rfl, _, _, rfl, rfl, kk⟩
      · rw [decide_eq_false c1] at kk
        exact iteF' (decide_eq_false c1) kk
theorem sc__law_stop : FnScope ["items", "many", "at"] ["items"] (defScope s__law_stop) := ⟨rfl, rfl, rfl, by decide +kernel, rfl, by decide +kernel, by decide +kernel⟩
abbrev N__law_stop : List Str := ["items", "many", "at"]
theorem ok__law_stop {f f1 f2 : Addr} {fd fd1 fd2 : FuncData} (F : Fun K "_law_stop" "_law_stop" s__law_stop f fd) (T : Blt mg) (D__law_within : Df K mg "_law_within" s__law_within ["item", "least", "most"] f1 fd1) (D__law_integer : Df K mg "_law_integer" s__law_integer ["item"] f2 fd2) : FnOk P w K mg base CX0 3 f fd ["items"] spStop := by
  have G__law_within : FnOk P w K mg base CX0 2 f1 fd1 ["item", "least", "most"] spWithin := ok__law_within D__law_within.F T D__law_integer
  refine F.ok sc__law_stop (fun vs H Q E h => ?_) (fun cdv A outer s H vs Q E hr h => ?_)
  · obtain ⟨q, ys, rfl, _⟩ := h
    rfl
  · obtain ⟨q, ys, rfl, gq, yne, hy, k⟩ := h
    refine ⟨_, (pss_cons (ps_if (pt_not (pt_val (pe_call G__law_within (hr.mono (by decide)) (by rfl) D__law_within.g D__law_within.F.kp D__law_within.b .nil pass0 (pa_cons (pe_ix ix_list (pv 0) pe_int (fun _ _ => rfl)) (pa_cons pe_int (pa_cons pe_int pa_nil)))))) (pss_one (ps_ret pe_int)) pss_nil)
  (pss_cons (ps_set (i := 1) sc__law_stop.nd rfl (Or.inl rfl) (pe_op op_add pe_int (pe_op op_oneN pe_int (pe_callTy call_int_str (by rfl) T.n_int (by decide +kernel) (pa_cons (pe_ix ix_list (pv 0) pe_int (fun _ _ => rfl)) pa_nil)))))
  (pss_cons (ps_for PassesOwn.never rfl (pi_range2 (by rfl) T.n_range (pa_cons pe_int (pa_cons (pe_callB (call_min2 rfl) (by rfl) T.n_min (by decide +kernel) (pa_cons (pv 1) (pa_cons (pe_callB call_len_seq (by rfl) T.n_len (by decide +kernel) (pa_cons (pv 0) pa_nil)) pa_nil))) pa_nil))) (pg_name (i := 2) sc__law_stop.nd rfl (Or.inl rfl)) (pss_one (ps_if (PW.pt (pw_and (pt_cmpR op_ne (pe_ix ix_list (pv 0) (pv 2) (fun _ _ => rfl)) pe_str (nomark _)) (pw_and1 (pt_not (pt_val (pe_call G__law_within (hr.mono (by decide)) (by rfl) D__law_within.g D__law_within.F.kp D__law_within.b .nil pass0 (pa_cons (pe_ix ix_list (pv 0) (pv 2) (fun _ _ => rfl)) (pa_cons pe_int (pa_cons pe_int pa_nil))))))))) (pss_one (ps_ret (pv 2))) pss_nil)))
  (pss_one (ps_ret (pe_ifExp (pt_cmpR op_eq (pe_callB call_len_seq (by rfl) T.n_len (by decide +kernel) (pa_cons (pv 0) pa_nil)) (pv 1) (nomark _)) pe_non (pe_callB (call_min2 rfl) (by rfl) T.n_min (by decide +kernel) (pa_cons (pv 1) (pa_cons (pe_callB call_len_seq (by rfl) T.n_len (by decide +kernel) (pa_cons (pv 0) pa_nil)) pa_nil))))))))), ?_⟩
    obtain ⟨y0, r, rfl⟩ : ∃ y0 yr, ys = y0 :: yr := by
      cases ys with
      | nil => exact absurd rfl yne
      | cons a b => exact ⟨a, b, rfl⟩
    have at0 : atI ((y0 :: r).map V.str) 0 = some (.str y0) := atI_nat (j := 0) rfl
    have sqq := SqL.of (K := K) gq
    obtain ⟨l0, a0⟩ := hy y0 List.mem_cons_self
    have ln : ((y0 :: r).map V.str).length = r.length + 1 := by simp
    have sqo : SqL K H q ((y0 :: r).map V.str) ∨ SqT K H q ((y0 :: r).map V.str) := .inl sqq
    repeat (first | (refine ⟨y0, 1, 8, rfl, by decide, l0, a0, ?_⟩) | (with_reducible refine st_tC ?_) | (with_reducible refine st_tOp ?_) | ((with_reducible apply st_n); rfl; rfl; (first | trivial | (show _ ≤ _; omega) | (show _ < _; omega) | (show _ ∨ _; omega) | assumption | exact ⟨by assumption, by omega⟩ | exact ⟨W30.one, by omega⟩ | fail); rfl) | (with_reducible refine st_i0 rfl rfl rfl ?_) | ((with_reducible refine st_i rfl rfl ?_ rfl ?_); first | omega | exact ⟨by decide, by decide, by decide⟩ | exact .inl ⟨by decide, by decide⟩ | exact .inl ⟨by omega, by omega⟩ | exact .inr ⟨by omega, by omega⟩ | fail) | ((fail_if_success refine Exists.intro (α := Nat → Nat → L2.St → Hp → Prop) ?_ ?_); (fail_if_success refine Exists.intro (α := L2.St → Hp → Prop) ?_ ?_); (fail_if_success refine Exists.intro (α := Nat → L2.St → Hp → Prop) ?_ ?_); apply Exists.intro) | ((refine And.intro ?_ ?_); first | with_reducible rfl | with_reducible assumption | rfl | ((with_reducible apply SqL.of); assumption) | ((with_reducible apply SqT.of); assumption) | ((with_reducible apply OwnC.cl); assumption) | (with_reducible exact isI_int _) | exact within_args | (with_reducible exact upd_same) | ((with_reducible apply Mid.o); assumption) | ((with_reducible apply Mid.t); assumption) | exact .inl ⟨rfl, _, SqL.of (by assumption)⟩ | (with_reducible exact ⟨_, SqT.of (by assumption)⟩) | (with_reducible exact ⟨_, SqL.of (by assumption)⟩) | omega | exact Nat.le_of_ble_eq_true rfl | exact nat9 (by omega) | exact ⟨_, rfl⟩ | (show _ ≤ sizeLine; decide) | exact ⟨by decide, by decide, by decide⟩ | exact .inl ⟨by decide, by decide⟩ | exact .inl ⟨by omega, by omega⟩ | exact .inr ⟨by omega, by omega⟩ | assumption | fail) | ((with_reducible refine iteF' ?_ ?_); first | rfl | exact decide_eq_false (by omega) | exact in_no (by omega) (by omega) | exact in_no (by omega) (by assumption) | (simp <;> fail) | fail) | ((with_reducible refine iteT' ?_ ?_); first | rfl | exact decide_eq_true (by omega) | (simp <;> fail) | fail))
    intro H1 S1
    repeat (first | (with_reducible refine st_tC ?_) | (with_reducible refine st_tOp ?_) | ((with_reducible apply st_n); rfl; rfl; (first | trivial | (show _ ≤ _; omega) | (show _ < _; omega) | (show _ ∨ _; omega) | assumption | exact ⟨by assumption, by omega⟩ | exact ⟨W30.one, by omega⟩ | fail); rfl) | (with_reducible refine st_i0 rfl rfl rfl ?_) | ((with_reducible refine st_i rfl rfl ?_ rfl ?_); first | omega | exact ⟨by decide, by decide, by decide⟩ | exact .inl ⟨by decide, by decide⟩ | exact .inl ⟨by omega, by omega⟩ | exact .inr ⟨by omega, by omega⟩ | fail) | ((fail_if_success refine Exists.intro (α := Nat → Nat → L2.St → Hp → Prop) ?_ ?_); (fail_if_success refine Exists.intro (α := L2.St → Hp → Prop) ?_ ?_); (fail_if_success refine Exists.intro (α := Nat → L2.St → Hp → Prop) ?_ ?_); apply Exists.intro) | ((refine And.intro ?_ ?_); first | with_reducible rfl | with_reducible assumption | rfl | ((with_reducible apply SqL.of); assumption) | ((with_reducible apply SqT.of); assumption) | ((with_reducible apply OwnC.cl); assumption) | (with_reducible exact isI_int _) | exact within_args | (with_reducible exact upd_same) | ((with_reducible apply Mid.o); assumption) | ((with_reducible apply Mid.t); assumption) | exact .inl ⟨rfl, _, SqL.of (by assumption)⟩ | (with_reducible exact ⟨_, SqT.of (by assumption)⟩) | (with_reducible exact ⟨_, SqL.of (by assumption)⟩) | omega | exact Nat.le_of_ble_eq_true rfl | exact nat9 (by omega) | exact ⟨_, rfl⟩ | (show _ ≤ sizeLine; decide) | exact ⟨by decide, by decide, by decide⟩ | exact .inl ⟨by decide, by decide⟩ | exact .inl ⟨by omega, by omega⟩ | exact .inr ⟨by omega, by omega⟩ | assumption | fail) | ((with_reducible refine iteF' ?_ ?_); first | rfl | exact decide_eq_false (by omega) | exact in_no (by omega) (by omega) | exact in_no (by omega) (by assumption) | (simp <;> fail) | fail) | ((with_reducible refine iteT' ?_ ?_); first | rfl | exact decide_eq_true (by omega) | (simp <;> fail) | fail))
    have inn := inR_numIn (y := y0) (lo := 1) (hi := 8)
    cases en : numIn y0 1 8 with
    | none =>
      rw [en] at inn
      rw [inn]
      have kk := k _ S1
      rw [show stopL (y0 :: r) = some 0 by unfold stopL; simp only; rw [en]] at kk
      exact iteT kk
    | some b =>
    rw [en] at inn
    rw [inn]
    refine iteF ?_
    obtain ⟨_, nb, b1, b8⟩ := numIn_some en
    obtain ⟨ti, tl⟩ := int_txt nb
    have p8 := pow8 (b := b) (by omega)
    have stop0 : ∀ w, fstBad (r.take (2 ^ b)) = w → stopL (y0 :: r) = (match w with | some i => some (1 + i) | none => if r.length = 2 ^ b then none else some (1 + min (2 ^ b) r.length)) := fun w e => by
      unfold stopL
      simp only
      rw [en]
      simp only
      first | (rw [e]; done) | (rw [e]; cases w <;> rfl)
    have sq1 := SqL.of (K := K) (S1 _ _ gq)
    have sqo1 : SqL K H1 q ((y0 :: r).map V.str) ∨ SqT K H1 q ((y0 :: r).map V.str) := .inl sq1
    repeat (first | (with_reducible refine st_tC ?_) | (with_reducible refine st_tOp ?_) | ((with_reducible apply st_n); rfl; rfl; (first | trivial | (show _ ≤ _; omega) | (show _ < _; omega) | (show _ ∨ _; omega) | assumption | exact ⟨by assumption, by omega⟩ | exact ⟨W30.one, by omega⟩ | fail); rfl) | (with_reducible refine st_i0 rfl rfl rfl ?_) | ((with_reducible refine st_i rfl rfl ?_ rfl ?_); first | omega | exact ⟨by decide, by decide, by decide⟩ | exact .inl ⟨by decide, by decide⟩ | exact .inl ⟨by omega, by omega⟩ | exact .inr ⟨by omega, by omega⟩ | fail) | ((fail_if_success refine Exists.intro (α := Nat → Nat → L2.St → Hp → Prop) ?_ ?_); (fail_if_success refine Exists.intro (α := L2.St → Hp → Prop) ?_ ?_); (fail_if_success refine Exists.intro (α := Nat → L2.St → Hp → Prop) ?_ ?_); apply Exists.intro) | ((refine And.intro ?_ ?_); first | with_reducible rfl | with_reducible assumption | rfl | ((with_reducible apply SqL.of); assumption) | ((with_reducible apply SqT.of); assumption) | ((with_reducible apply OwnC.cl); assumption) | (with_reducible exact isI_int _) | exact within_args | (with_reducible exact upd_same) | ((with_reducible apply Mid.o); assumption) | ((with_reducible apply Mid.t); assumption) | exact .inl ⟨rfl, _, SqL.of (by assumption)⟩ | (with_reducible exact ⟨_, SqT.of (by assumption)⟩) | (with_reducible exact ⟨_, SqL.of (by assumption)⟩) | omega | exact Nat.le_of_ble_eq_true rfl | exact nat9 (by omega) | exact ⟨_, rfl⟩ | (show _ ≤ sizeLine; decide) | exact ⟨by decide, by decide, by decide⟩ | exact .inl ⟨by decide, by decide⟩ | exact .inl ⟨by omega, by omega⟩ | exact .inr ⟨by omega, by omega⟩ | assumption | fail) | ((with_reducible refine iteF' ?_ ?_); first | rfl | exact decide_eq_false (by omega) | exact in_no (by omega) (by omega) | exact in_no (by omega) (by assumption) | (simp <;> fail) | fail) | ((with_reducible refine iteT' ?_ ?_); first | rfl | exact decide_eq_true (by omega) | (simp <;> fail) | fail))
    obtain ⟨mm, e1, e2⟩ : ∃ mm : Nat, (if (((y0 :: r).map V.str).length : Int) < 1 + ((2 ^ b : Nat) : Int) then (((y0 :: r).map V.str).length : Int) else 1 + ((2 ^ b : Nat) : Int)) = 1 + (mm : Int) ∧ mm = min (2 ^ b) r.length := by
      refine ⟨_, ?_, rfl⟩
      rw [ln]
      split <;> omega
    rw [e1]
    refine ⟨⟨by omega, by omega, by omega, by omega⟩, ?_⟩
    rw [show ((1 : Int) + (mm : Int) - 1).toNat = mm by omega]
    refine for_range (lo := 1) (n := mm) (fun i σ H' => Same H H' ∧ (∀ j, j < i → ∃ y m, (r.take (2 ^ b))[j]? = some y ∧ mOf y = some m) ∧ ∃ u : Option V, σ = [some (.ref q), some (.int (1 + ((2 ^ b : Nat) : Int))), u]) ⟨S1, fun j hj => absurd hj (Nat.not_lt_zero _), none, rfl⟩ ?_ ?_
    · rintro i σ H2 hi ⟨S2, bf, u, rfl⟩
      have hir : i < r.length := by omega
      obtain ⟨y, ey⟩ : ∃ y, r[i]? = some y := ⟨_, List.getElem?_eq_getElem hir⟩
      have ey2 : (r.take (2 ^ b))[i]? = some y := by rw [List.getElem?_take_of_lt (by omega)]; exact ey
      obtain ⟨yl, ya⟩ := hy y (List.mem_cons_of_mem _ (List.mem_of_getElem? ey))
      have sq2 := SqL.of (K := K) (S2 _ _ gq)
      have at1 : atI ((y0 :: r).map V.str) (1 + (i : Int)) = some (.str y) := by
        rw [show (1 : Int) + (i : Int) = ((i + 1 : Nat) : Int) by omega]
        exact atI_nat (by rw [List.map_cons, List.getElem?_cons_succ, List.getElem?_map, ey]; rfl)
      have step : mOf y ≠ none → ∀ H3, Same H H3 → Same H H3 ∧ (∀ j, j < i + 1 → ∃ y m, (r.take (2 ^ b))[j]? = some y ∧ mOf y = some m) := fun hm H3 S3 => ⟨S3, fun j hj => by
        by_cases c : j < i
        · exact bf j c
        · obtain rfl : j = i := by omega
          cases em : mOf y with
          | none => exact absurd em hm
          | some m => exact ⟨y, m, ey2, em⟩⟩
      have sqo2 : SqL K H2 q ((y0 :: r).map V.str) ∨ SqT K H2 q ((y0 :: r).map V.str) := .inl sq2
      repeat (first | (with_reducible refine st_tC ?_) | (with_reducible refine st_tOp ?_) | ((with_reducible apply st_n); rfl; rfl; (first | trivial | (show _ ≤ _; omega) | (show _ < _; omega) | (show _ ∨ _; omega) | assumption | exact ⟨by assumption, by omega⟩ | exact ⟨W30.one, by omega⟩ | fail); rfl) | (with_reducible refine st_i0 rfl rfl rfl ?_) | ((with_reducible refine st_i rfl rfl ?_ rfl ?_); first | omega | exact ⟨by decide, by decide, by decide⟩ | exact .inl ⟨by decide, by decide⟩ | exact .inl ⟨by omega, by omega⟩ | exact .inr ⟨by omega, by omega⟩ | fail) | ((fail_if_success refine Exists.intro (α := Nat → Nat → L2.St → Hp → Prop) ?_ ?_); (fail_if_success refine Exists.intro (α := L2.St → Hp → Prop) ?_ ?_); (fail_if_success refine Exists.intro (α := Nat → L2.St → Hp → Prop) ?_ ?_); apply Exists.intro) | ((refine And.intro ?_ ?_); first | with_reducible rfl | with_reducible assumption | rfl | ((with_reducible apply SqL.of); assumption) | ((with_reducible apply SqT.of); assumption) | ((with_reducible apply OwnC.cl); assumption) | (with_reducible exact isI_int _) | exact within_args | (with_reducible exact upd_same) | ((with_reducible apply Mid.o); assumption) | ((with_reducible apply Mid.t); assumption) | exact .inl ⟨rfl, _, SqL.of (by assumption)⟩ | (with_reducible exact ⟨_, SqT.of (by assumption)⟩) | (with_reducible exact ⟨_, SqL.of (by assumption)⟩) | omega | exact Nat.le_of_ble_eq_true rfl | exact nat9 (by omega) | exact ⟨_, rfl⟩ | (show _ ≤ sizeLine; decide) | exact ⟨by decide, by decide, by decide⟩ | exact .inl ⟨by decide, by decide⟩ | exact .inl ⟨by omega, by omega⟩ | exact .inr ⟨by omega, by omega⟩ | assumption | fail) | ((with_reducible refine iteF' ?_ ?_); first | rfl | exact decide_eq_false (by omega) | exact in_no (by omega) (by omega) | exact in_no (by omega) (by assumption) | (simp <;> fail) | fail) | ((with_reducible refine iteT' ?_ ?_); first | rfl | exact decide_eq_true (by omega) | (simp <;> fail) | fail))
      by_cases c : y = "-"
      · refine iteF' (by rw [c]; decide) ?_
        obtain ⟨a1, a2⟩ := step (by unfold mOf; rw [if_pos c]; exact fun z => by cases z) H2 S2
        exact ⟨a1, a2, _, rfl⟩
      refine iteT' (by rw [decide_eq_false fun z => c (V.str.inj z)]; rfl) ?_
      have mo : mOf y = (numIn y 0 63).map some := by unfold mOf; rw [if_neg c]
      have sqo2 : SqL K H2 q ((y0 :: r).map V.str) ∨ SqT K H2 q ((y0 :: r).map V.str) := .inl sq2
      repeat (first | (refine ⟨y, 0, 63, rfl, by decide, yl, ya, ?_⟩) | (with_reducible refine st_tC ?_) | (with_reducible refine st_tOp ?_) | ((with_reducible apply st_n); rfl; rfl; (first | trivial | (show _ ≤ _; omega) | (show _ < _; omega) | (show _ ∨ _; omega) | assumption | exact ⟨by assumption, by omega⟩ | exact ⟨W30.one, by omega⟩ | fail); rfl) | (with_reducible refine st_i0 rfl rfl rfl ?_) | ((with_reducible refine st_i rfl rfl ?_ rfl ?_); first | omega | exact ⟨by decide, by decide, by decide⟩ | exact .inl ⟨by decide, by decide⟩ | exact .inl ⟨by omega, by omega⟩ | exact .inr ⟨by omega, by omega⟩ | fail) | ((fail_if_success refine Exists.intro (α := Nat → Nat → L2.St → Hp → Prop) ?_ ?_); (fail_if_success refine Exists.intro (α := L2.St → Hp → Prop) ?_ ?_); (fail_if_success refine Exists.intro (α := Nat → L2.St → Hp → Prop) ?_ ?_); apply Exists.intro) | ((refine And.intro ?_ ?_); first | with_reducible rfl | with_reducible assumption | rfl | ((with_reducible apply SqL.of); assumption) | ((with_reducible apply SqT.of); assumption) | ((with_reducible apply OwnC.cl); assumption) | (with_reducible exact isI_int _) | exact within_args | (with_reducible exact upd_same) | ((with_reducible apply Mid.o); assumption) | ((with_reducible apply Mid.t); assumption) | exact .inl ⟨rfl, _, SqL.of (by assumption)⟩ | (with_reducible exact ⟨_, SqT.of (by assumption)⟩) | (with_reducible exact ⟨_, SqL.of (by assumption)⟩) | omega | exact Nat.le_of_ble_eq_true rfl | exact nat9 (by omega) | exact ⟨_, rfl⟩ | (show _ ≤ sizeLine; decide) | exact ⟨by decide, by decide, by decide⟩ | exact .inl ⟨by decide, by decide⟩ | exact .inl ⟨by omega, by omega⟩ | exact .inr ⟨by omega, by omega⟩ | assumption | fail) | ((with_reducible refine iteF' ?_ ?_); first | rfl | exact decide_eq_false (by omega) | exact in_no (by omega) (by omega) | exact in_no (by omega) (by assumption) | (simp <;> fail) | fail) | ((with_reducible refine iteT' ?_ ?_); first | rfl | exact decide_eq_true (by omega) | (simp <;> fail) | fail))
      intro H3 S3
      repeat (first | (with_reducible refine st_tC ?_) | (with_reducible refine st_tOp ?_) | ((with_reducible apply st_n); rfl; rfl; (first | trivial | (show _ ≤ _; omega) | (show _ < _; omega) | (show _ ∨ _; omega) | assumption | exact ⟨by assumption, by omega⟩ | exact ⟨W30.one, by omega⟩ | fail); rfl) | (with_reducible refine st_i0 rfl rfl rfl ?_) | ((with_reducible refine st_i rfl rfl ?_ rfl ?_); first | omega | exact ⟨by decide, by decide, by decide⟩ | exact .inl ⟨by decide, by decide⟩ | exact .inl ⟨by omega, by omega⟩ | exact .inr ⟨by omega, by omega⟩ | fail) | ((fail_if_success refine Exists.intro (α := Nat → Nat → L2.St → Hp → Prop) ?_ ?_); (fail_if_success refine Exists.intro (α := L2.St → Hp → Prop) ?_ ?_); (fail_if_success refine Exists.intro (α := Nat → L2.St → Hp → Prop) ?_ ?_); apply Exists.intro) | ((refine And.intro ?_ ?_); first | with_reducible rfl | with_reducible assumption | rfl | ((with_reducible apply SqL.of); assumption) | ((with_reducible apply SqT.of); assumption) | ((with_reducible apply OwnC.cl); assumption) | (with_reducible exact isI_int _) | exact within_args | (with_reducible exact upd_same) | ((with_reducible apply Mid.o); assumption) | ((with_reducible apply Mid.t); assumption) | exact .inl ⟨rfl, _, SqL.of (by assumption)⟩ | (with_reducible exact ⟨_, SqT.of (by assumption)⟩) | (with_reducible exact ⟨_, SqL.of (by assumption)⟩) | omega | exact Nat.le_of_ble_eq_true rfl | exact nat9 (by omega) | exact ⟨_, rfl⟩ | (show _ ≤ sizeLine; decide) | exact ⟨by decide, by decide, by decide⟩ | exact .inl ⟨by decide, by decide⟩ | exact .inl ⟨by omega, by omega⟩ | exact .inr ⟨by omega, by omega⟩ | assumption | fail) | ((with_reducible refine iteF' ?_ ?_); first | rfl | exact decide_eq_false (by omega) | exact in_no (by omega) (by omega) | exact in_no (by omega) (by assumption) | (simp <;> fail) | fail) | ((with_reducible refine iteT' ?_ ?_); first | rfl | exact decide_eq_true (by omega) | (simp <;> fail) | fail))
      have inn := inR_numIn (y := y) (lo := 0) (hi := 63)
      cases ez : numIn y 0 63 with
      | none =>
        rw [ez] at inn mo
        rw [inn]
        have kk := k _ (S2.trans S3)
        rw [stop0 _ (fst_some bf ⟨y, ey2, mo⟩)] at kk
        refine iteT ?_
        repeat (first | (with_reducible refine st_tC ?_) | (with_reducible refine st_tOp ?_) | ((with_reducible apply st_n); rfl; rfl; (first | trivial | (show _ ≤ _; omega) | (show _ < _; omega) | (show _ ∨ _; omega) | assumption | exact ⟨by assumption, by omega⟩ | exact ⟨W30.one, by omega⟩ | fail); rfl) | (with_reducible refine st_i0 rfl rfl rfl ?_) | ((with_reducible refine st_i rfl rfl ?_ rfl ?_); first | omega | exact ⟨by decide, by decide, by decide⟩ | exact .inl ⟨by decide, by decide⟩ | exact .inl ⟨by omega, by omega⟩ | exact .inr ⟨by omega, by omega⟩ | fail) | ((fail_if_success refine Exists.intro (α := Nat → Nat → L2.St → Hp → Prop) ?_ ?_); (fail_if_success refine Exists.intro (α := L2.St → Hp → Prop) ?_ ?_); (fail_if_success refine Exists.intro (α := Nat → L2.St → Hp → Prop) ?_ ?_); apply Exists.intro) | ((refine And.intro ?_ ?_); first | with_reducible rfl | with_reducible assumption | rfl | ((with_reducible apply SqL.of); assumption) | ((with_reducible apply SqT.of); assumption) | ((with_reducible apply OwnC.cl); assumption) | (with_reducible exact isI_int _) | exact within_args | (with_reducible exact upd_same) | ((with_reducible apply Mid.o); assumption) | ((with_reducible apply Mid.t); assumption) | exact .inl ⟨rfl, _, SqL.of (by assumption)⟩ | (with_reducible exact ⟨_, SqT.of (by assumption)⟩) | (with_reducible exact ⟨_, SqL.of (by assumption)⟩) | omega | exact Nat.le_of_ble_eq_true rfl | exact nat9 (by omega) | exact ⟨_, rfl⟩ | (show _ ≤ sizeLine; decide) | exact ⟨by decide, by decide, by decide⟩ | exact .inl ⟨by decide, by decide⟩ | exact .inl ⟨by omega, by omega⟩ | exact .inr ⟨by omega, by omega⟩ | assumption | fail) | ((with_reducible refine iteF' ?_ ?_); first | rfl | exact decide_eq_false (by omega) | exact in_no (by omega) (by omega) | exact in_no (by omega) (by assumption) | (simp <;> fail) | fail) | ((with_reducible refine iteT' ?_ ?_); first | rfl | exact decide_eq_true (by omega) | (simp <;> fail) | fail))
        rw [show (1 : Int) + (i : Int) = ((1 + i : Nat) : Int) by omega]
        exact kk
      | some n =>
        rw [ez] at inn mo
        rw [inn]
        obtain ⟨a1, a2⟩ := step (by rw [mo]; exact fun z => by cases z) H3 (S2.trans S3)
        exact iteF ⟨a1, a2, _, rfl⟩
    · rintro σ H2 ⟨S2, bf, u, rfl⟩
      have sq2 : SqL K H2 q ((y0 :: r).map V.str) ∨ SqT K H2 q ((y0 :: r).map V.str) := .inl (SqL.of (S2 _ _ gq))
      have fn := fst_none (l := r.take (2 ^ b)) fun j hj => bf j (by rw [List.length_take] at hj; omega)
      have kk := k _ S2
      rw [stop0 _ fn] at kk
      replace kk : Q (oN (if r.length = 2 ^ b then none else some (1 + min (2 ^ b) r.length))) H2 := kk
      repeat (first | (with_reducible refine st_tC ?_) | (with_reducible refine st_tOp ?_) | ((with_reducible apply st_n); rfl; rfl; (first | trivial | (show _ ≤ _; omega) | (show _ < _; omega) | (show _ ∨ _; omega) | assumption | exact ⟨by assumption, by omega⟩ | exact ⟨W30.one, by omega⟩ | fail); rfl) | (with_reducible refine st_i0 rfl rfl rfl ?_) | ((with_reducible refine st_i rfl rfl ?_ rfl ?_); first | omega | exact ⟨by decide, by decide, by decide⟩ | exact .inl ⟨by decide, by decide⟩ | exact .inl ⟨by omega, by omega⟩ | exact .inr ⟨by omega, by omega⟩ | fail) | ((fail_if_success refine Exists.intro (α := Nat → Nat → L2.St → Hp → Prop) ?_ ?_); (fail_if_success refine Exists.intro (α := L2.St → Hp → Prop) ?_ ?_); (fail_if_success refine Exists.intro (α := Nat → L2.St → Hp → Prop) ?_ ?_); apply Exists.intro) | ((refine And.intro ?_ ?_); first | with_reducible rfl | with_reducible assumption | rfl | ((with_reducible apply SqL.of); assumption) | ((with_reducible apply SqT.of); assumption) | ((with_reducible apply OwnC.cl); assumption) | (with_reducible exact isI_int _) | exact within_args | (with_reducible exact upd_same) | ((with_reducible apply Mid.o); assumption) | ((with_reducible apply Mid.t); assumption) | exact .inl ⟨rfl, _, SqL.of (by assumption)⟩ | (with_reducible exact ⟨_, SqT.of (by assumption)⟩) | (with_reducible exact ⟨_, SqL.of (by assumption)⟩) | omega | exact Nat.le_of_ble_eq_true rfl | exact nat9 (by omega) | exact ⟨_, rfl⟩ | (show _ ≤ sizeLine; decide) | exact ⟨by decide, by decide, by decide⟩ | exact .inl ⟨by decide, by decide⟩ | exact .inl ⟨by omega, by omega⟩ | exact .inr ⟨by omega, by omega⟩ | assumption | fail) | ((with_reducible refine iteF' ?_ ?_); first | rfl | exact decide_eq_false (by omega) | exact in_no (by omega) (by omega) | exact in_no (by omega) (by assumption) | (simp <;> fail) | fail) | ((with_reducible refine iteT' ?_ ?_); first | rfl | exact decide_eq_true (by omega) | (simp <;> fail) | fail))
      by_cases c : r.length = 2 ^ b
      · rw [if_pos c] at kk
        have cc : decide (V.int (((y0 :: r).map V.str).length : Int) = V.int (1 + ((2 ^ b : Nat) : Int))) = true := decide_eq_true (by rw [ln, c]; congr 1; omega)
        repeat (first | (with_reducible refine st_tC ?_) | (with_reducible refine st_tOp ?_) | ((with_reducible apply st_n); rfl; rfl; (first | trivial | (show _ ≤ _; omega) | (show _ < _; omega) | (show _ ∨ _; omega) | assumption | exact ⟨by assumption, by omega⟩ | exact ⟨W30.one, by omega⟩ | fail); rfl) | (with_reducible refine st_i0 rfl rfl rfl ?_) | ((with_reducible refine st_i rfl rfl ?_ rfl ?_); first | omega | exact ⟨by decide, by decide, by decide⟩ | exact .inl ⟨by decide, by decide⟩ | exact .inl ⟨by omega, by omega⟩ | exact .inr ⟨by omega, by omega⟩ | fail) | ((fail_if_success refine Exists.intro (α := Nat → Nat → L2.St → Hp → Prop) ?_ ?_); (fail_if_success refine Exists.intro (α := L2.St → Hp → Prop) ?_ ?_); (fail_if_success refine Exists.intro (α := Nat → L2.St → Hp → Prop) ?_ ?_); apply Exists.intro) | ((refine And.intro ?_ ?_); first | with_reducible rfl | with_reducible assumption | rfl | ((with_reducible apply SqL.of); assumption) | ((with_reducible apply SqT.of); assumption) | ((with_reducible apply OwnC.cl); assumption) | (with_reducible exact isI_int _) | exact within_args | (with_reducible exact upd_same) | ((with_reducible apply Mid.o); assumption) | ((with_reducible apply Mid.t); assumption) | exact .inl ⟨rfl, _, SqL.of (by assumption)⟩ | (with_reducible exact ⟨_, SqT.of (by assumption)⟩) | (with_reducible exact ⟨_, SqL.of (by assumption)⟩) | omega | exact Nat.le_of_ble_eq_true rfl | exact nat9 (by omega) | exact ⟨_, rfl⟩ | (show _ ≤ sizeLine; decide) | exact ⟨by decide, by decide, by decide⟩ | exact .inl ⟨by decide, by decide⟩ | exact .inl ⟨by omega, by omega⟩ | exact .inr ⟨by omega, by omega⟩ | assumption | fail) | ((with_reducible refine iteF' ?_ ?_); first | rfl | exact decide_eq_false (by omega) | exact in_no (by omega) (by omega) | exact in_no (by omega) (by assumption) | (simp <;> fail) | fail) | ((with_reducible refine iteT' ?_ ?_); first | rfl | exact decide_eq_true (by omega) | (simp <;> fail) | fail))
        exact iteT' cc kk
      · rw [if_neg c] at kk
        have cc : decide (V.int (((y0 :: r).map V.str).length : Int) = V.int (1 + ((2 ^ b : Nat) : Int))) = false := decide_eq_false fun z => c (by rw [ln] at z; have := V.int.inj z; omega)
        repeat (first | (with_reducible refine st_tC ?_) | (with_reducible refine st_tOp ?_) | ((with_reducible apply st_n); rfl; rfl; (first | trivial | (show _ ≤ _; omega) | (show _ < _; omega) | (show _ ∨ _; omega) | assumption | exact ⟨by assumption, by omega⟩ | exact ⟨W30.one, by omega⟩ | fail); rfl) | (with_reducible refine st_i0 rfl rfl rfl ?_) | ((with_reducible refine st_i rfl rfl ?_ rfl ?_); first | omega | exact ⟨by decide, by decide, by decide⟩ | exact .inl ⟨by decide, by decide⟩ | exact .inl ⟨by omega, by omega⟩ | exact .inr ⟨by omega, by omega⟩ | fail) | ((fail_if_success refine Exists.intro (α := Nat → Nat → L2.St → Hp → Prop) ?_ ?_); (fail_if_success refine Exists.intro (α := L2.St → Hp → Prop) ?_ ?_); (fail_if_success refine Exists.intro (α := Nat → L2.St → Hp → Prop) ?_ ?_); apply Exists.intro) | ((refine And.intro ?_ ?_); first | with_reducible rfl | with_reducible assumption | rfl | ((with_reducible apply SqL.of); assumption) | ((with_reducible apply SqT.of); assumption) | ((with_reducible apply OwnC.cl); assumption) | (with_reducible exact isI_int _) | exact within_args | (with_reducible exact upd_same) | ((with_reducible apply Mid.o); assumption) | ((with_reducible apply Mid.t); assumption) | exact .inl ⟨rfl, _, SqL.of (by assumption)⟩ | (with_reducible exact ⟨_, SqT.of (by assumption)⟩) | (with_reducible exact ⟨_, SqL.of (by assumption)⟩) | omega | exact Nat.le_of_ble_eq_true rfl | exact nat9 (by omega) | exact ⟨_, rfl⟩ | (show _ ≤ sizeLine; decide) | exact ⟨by decide, by decide, by decide⟩ | exact .inl ⟨by decide, by decide⟩ | exact .inl ⟨by omega, by omega⟩ | exact .inr ⟨by omega, by omega⟩ | assumption | fail) | ((with_reducible refine iteF' ?_ ?_); first | rfl | exact decide_eq_false (by omega) | exact in_no (by omega) (by omega) | exact in_no (by omega) (by assumption) | (simp <;> fail) | fail) | ((with_reducible refine iteT' ?_ ?_); first | rfl | exact decide_eq_true (by omega) | (simp <;> fail) | fail))
        refine iteF' cc ?_
        refine ⟨_, rfl, _, rfl, q, _, rfl, sq2, _, _, rfl, ?_⟩
        rw [e1, show (1 : Int) + (mm : Int) = ((1 + min (2 ^ b) r.length : Nat) : Int) by omega]
        exact kk
end
end K12
namespace K12
open PySem PySem.Spec PyProof.Rows L2 OB SkE LamX
theorem pick_int {ks : List Int} {j : Nat} {x : V} (h : (ks.map V.int)[j]? = some x) : ∃ k ∈ ks, x = V.int k := by
  rw [List.getElem?_map] at h
  cases e : ks[j]? with
  | none => rw [e] at h; cases h
  | some k => rw [e] at h; exact ⟨k, List.mem_of_getElem? e, (Option.some.inj h).symm⟩
theorem nat9 {k : Int} (h : k.natAbs < 1000) : k.natAbs < 2 ^ 9000 := Nat.lt_of_lt_of_le h (by decide)
theorem two_of {α : Type} : ∀ {l : List α}, l.length = 2 → ∃ a b, l = [a, b]
  | [a, b], _ => ⟨a, b, rfl⟩
/-- what stands between two steps of the law -/
structure Mid (T : List (Addr × Str)) (p b n : Nat) (H : Hp) : Prop where
  o : Orch H p b n
  t : Tabs T H
theorem Mid.same {T : List (Addr × Str)} {p b n : Nat} {H H' : Hp} (m : Mid T p b n H) (s : Same H H') : Mid T p b n H' := ⟨m.o.same s, m.t.ext s⟩
theorem Mid.draw {T : List (Addr × Str)} {p b n k : Nat} {H H' : Hp} (m : Mid T p b n H) (o : Orch H' p b k) (B : But p H H') : Mid T p b k H' := ⟨o, tabs_orchN m.t B m.o⟩
theorem Mid.mono {T : List (Addr × Str)} {p b n k : Nat} {H : Hp} (m : Mid T p b n H) (h : n ≤ k) : Mid T p b k H := ⟨m.o.mono h, m.t⟩
theorem Mid.put {T : List (Addr × Str)} {p b n : Nat} {H : Hp} {D : Addr} {xs ys : List V} (m : Mid T p b n H) (hD : H D = some (.lst xs)) (n1 : D ≠ p) (n2 : b ≠ D) : Mid T p b n (upd H D (.lst ys)) :=
  ⟨m.o.keep (fun u e => by rw [upd_ne n1.symm]; exact e) (fun u e => by rw [upd_ne n2]; exact e), tabs_butN m.t but_at hD⟩
theorem Mid.pD {T : List (Addr × Str)} {p b n : Nat} {H : Hp} {D : Addr} (m : Mid T p b n H) (h : H D = none) : D ≠ p := by
  obtain ⟨u, hu⟩ := m.o.pn
  exact (ne_of_none hu h).symm
theorem Mid.bD {T : List (Addr × Str)} {p b n : Nat} {H : Hp} {D : Addr} (m : Mid T p b n H) (h : H D = none) : b ≠ D := by
  obtain ⟨u, hu⟩ := m.o.bn
  exact ne_of_none hu h
theorem Mid.ext {T : List (Addr × Str)} {p b n : Nat} {H H' : Hp} (m : Mid T p b n H) (e : ExtN H H') (t : Tabs T H') : Mid T p b n H' := ⟨orch_extN m.o e, t⟩
theorem but_put {p D : Addr} {H H' : Hp} {o : HO} (hD : H D = none) (B : But p H H') : But p H (upd H' D o) := fun a u e na => by
  rw [upd_ne (ne_of_none e hD)]
  exact B _ _ e na
theorem new_facts {H H' : Hp} {l : Addr} {o : HO} (h : H l = none) (e : upd H l o = H') : Same H H' ∧ H' l = some o := by
  subst e
  exact ⟨same_new h, upd_same⟩
/-- what stands but for the draws' own list -/
structure Bt (p : Addr) (H0 H : Hp) : Prop where
  b : But p H0 H
theorem Bt.same {p : Addr} {H0 H H' : Hp} (t : Bt p H0 H) (s : Same H H') : Bt p H0 H' := ⟨t.b.trans (But.of s)⟩
theorem Bt.but {p : Addr} {H0 H H' : Hp} {xs : List V} (t : Bt p H0 H) (s : But p H H') (_ : H p = some (.lst xs)) : Bt p H0 H' := ⟨t.b.trans s⟩
theorem Mid.none {p b n : Addr} {H : Hp} (O : Orch H p b n) : Mid [] p b n H := ⟨O, fun x hx => absurd hx List.not_mem_nil⟩
theorem cut_to (xs : List V) (i : Nat) : cutV xs none (some (i : Int)) = xs.take i := by
  unfold cutV
  have a : HT.sIx xs.length 0 none = 0 := rfl
  have e : HT.sIx xs.length xs.length (some (i : Int)) = min i xs.length := HT.sIx_nat _ _ i
  rw [a, e, List.drop_zero, Nat.sub_zero]
  by_cases h : i ≤ xs.length
  · rw [Nat.min_eq_left h]
  · rw [Nat.min_eq_right (by omega), List.take_length, List.take_of_length_le (by omega)]
theorem cut_from (xs : List V) (i : Nat) : cutV xs (some (i : Int)) none = xs.drop i := by
  unfold cutV
  have a : HT.sIx xs.length xs.length none = xs.length := rfl
  have e : HT.sIx xs.length 0 (some (i : Int)) = min i xs.length := HT.sIx_nat _ _ i
  rw [a, e]
  by_cases h : i ≤ xs.length
  · rw [Nat.min_eq_left h, List.take_of_length_le (by rw [List.length_drop]; exact Nat.le_refl _)]
  · rw [Nat.min_eq_right (by omega), List.drop_length, List.take_nil, List.drop_of_length_le (by omega)]
theorem cut_from1 (xs : List V) (i : Nat) : cutV xs (some ((i : Int) + 1)) none = xs.drop (i + 1) := cut_from xs (i + 1)
theorem cutV_to1 (xs : List V) (i : Nat) : cutV xs none (some ((i : Int) + 1)) = xs.take (i + 1) := cut_to xs (i + 1)
def ItOk (y : Str) : Prop := MN.asc y ∧ y.length ≤ 5001
def wgt (ys : List Str) : Nat := (ys.map fun y => y.length).sum + ys.length
theorem wgt_cons (y : Str) (r : List Str) : wgt (y :: r) = y.length + 1 + wgt r := by
  unfold wgt
  rw [List.map_cons, List.sum_cons, List.length_cons]
  omega
theorem wgt_app : ∀ l m : List Str, wgt (l ++ m) = wgt l + wgt m
  | [], m => by rw [List.nil_append]; show _ = 0 + _; omega
  | a :: l, m => by rw [List.cons_append, wgt_cons, wgt_cons, wgt_app l m]; omega
theorem wgt_two (ys : List Str) (k : Nat) : wgt (ys.take k) + wgt (ys.drop k) = wgt ys := by
  rw [← wgt_app, List.take_append_drop]
theorem wgt_drop (ys : List Str) (k : Nat) : wgt (ys.drop (k + 1)) ≤ wgt (ys.drop k) := by
  have := wgt_two (ys.drop k) 1
  rw [List.drop_drop] at this
  omega
theorem cs_app (a b : Str) : MT.cs (a ++ b) = MT.cs a ++ MT.cs b := Array.toList_append
theorem litA {s : Str} (h : (MT.cs s).all (fun c => decide (c < 256)) = true) (h2 : s.length ≤ 60) : ItOk s := ⟨fun c hc => of_decide_eq_true (List.all_eq_true.mp h c hc), by omega⟩
def spBent : Sp := fun vs H Q _ => ∃ (p b n q : Nat) (ys : List Str), vs = [.ref p, .ref q] ∧ Orch H p b n ∧ n + 3 < 1000000 ∧ q ≠ p ∧ H q = some (.lst (ys.map V.str)) ∧ ys ≠ [] ∧ wgt ys ≤ 1100 ∧ (∀ y ∈ ys, ItOk y) ∧
  ∀ (l : Addr) (zs : List Str) (H' : Hp), l ≠ p → H' l = some (.lst (zs.map V.str)) → Orch H' p b (n + 3) → But p H H' → (∀ y ∈ zs, ItOk y) → wgt zs ≤ wgt ys + 5002 → Q (.ref l) H'
section
variable {P : Program} {w : World} {K : PySem.W.Frag} {mg : Str → Option Value} {base : Heap}
theorem sc__law_bent : FnScope ["mill", "items", "at", "way", "odd", "new"] ["mill", "items"] (defScope s__law_bent) := ⟨rfl, rfl, rfl, by decide +kernel, rfl, by decide +kernel, by decide +kernel⟩
abbrev N__law_bent : List Str := ["mill", "items", "at", "way", "odd", "new"]
theorem ok__law_bent {f f1 f2 : Addr} {fd fd1 fd2 : FuncData} (F : Fun K "_law_bent" "_law_bent" s__law_bent f fd) (T : Blt mg) (D__law_grind : Df K mg "_law_grind" s__law_grind ["mill", "many"] f1 fd1) (D__law_one_of : Df K mg "_law_one_of" s__law_one_of ["mill", "some"] f2 fd2) : FnOk P w K mg base CX0 3 f fd ["mill", "items"] spBent := by
  have G__law_grind : FnOk P w K mg base CX0 1 f1 fd1 ["mill", "many"] spDraw := ok__law_grind D__law_grind.F T
  have G__law_one_of : FnOk P w K mg base CX0 2 f2 fd2 ["mill", "some"] spOne := ok__law_one_of D__law_one_of.F T D__law_grind
  refine F.ok sc__law_bent (fun vs H Q E h => ?_) (fun cdv A outer s H vs Q E hr h => ?_)
  · obtain ⟨p, b, n, q, ys, rfl, _⟩ := h
    rfl
  · obtain ⟨p, b, n, it, ys, rfl, O, hn, np_it, g_it, yne, wy, oy, k⟩ := h
    refine ⟨_, (pss_cons (ps_par (i := 2) (j := 3) (by rfl) sc__law_bent.nd rfl rfl (by decide) rfl rfl (pa_cons (pe_call G__law_grind (hr.mono (by decide)) (by rfl) D__law_grind.g D__law_grind.F.kp D__law_grind.b .nil pass0 (pa_cons (pv 0) (pa_cons (pe_callB call_len_seq (by rfl) T.n_len (by decide +kernel) (pa_cons (pv 1) pa_nil)) pa_nil))) (pa_cons (pe_call G__law_grind (hr.mono (by decide)) (by rfl) D__law_grind.g D__law_grind.F.kp D__law_grind.b .nil pass0 (pa_cons (pv 0) (pa_cons pe_int pa_nil))) pa_nil)) (by rfl))
  (pss_cons (ps_set (i := 4) sc__law_bent.nd rfl (Or.inl rfl) (pe_lst (pa_cons pe_str (pa_cons pe_str (pa_cons pe_str (pa_cons pe_str (pa_cons pe_str (pa_cons pe_str (pa_cons pe_str (pa_cons pe_str (pa_cons pe_str (pa_cons pe_str (pa_cons pe_str (pa_cons pe_str (pa_cons pe_str (pa_cons pe_str (pa_cons pe_str (pa_cons (pe_op op_mulS pe_str pe_int) (pa_cons (pe_op op_mulS pe_str pe_int) (pa_cons (pe_op op_add_str pe_str (pe_op op_mulS pe_str pe_int)) (pa_cons pe_str (pa_cons pe_str (pa_cons pe_str (pa_cons pe_str (pa_cons pe_str pa_nil)))))))))))))))))))))))))
  (pss_cons (ps_set (i := 5) sc__law_bent.nd rfl (Or.inl rfl) (pe_call G__law_one_of (hr.mono (by decide)) (by rfl) D__law_one_of.g D__law_one_of.F.kp D__law_one_of.b .nil pass0 (pa_cons (pv 0) (pa_cons (pv 4) pa_nil))))
  (pss_cons (ps_if (pt_cmpR op_lt (pv 3) pe_int (nomark _)) (pss_one (ps_ret (pe_op op_cat (pe_op op_cat (pe_slice sl_list (pv 1) po_none (po_some (pv 2))) (pe_lst (pa_cons (pv 5) pa_nil))) (pe_slice sl_list (pv 1) (po_some (pe_op op_add (pv 2) pe_int)) po_none)))) pss_nil)
  (pss_cons (ps_if (pt_cmpR op_eq (pv 3) pe_int (nomark _)) (pss_one (ps_ret (pe_op op_cat (pe_op op_cat (pe_slice sl_list (pv 1) po_none (po_some (pv 2))) (pe_lst (pa_cons (pv 5) pa_nil))) (pe_slice sl_list (pv 1) (po_some (pv 2)) po_none)))) pss_nil)
  (pss_cons (ps_if (pt_cmpR op_eq (pv 3) pe_int (nomark _)) (pss_one (ps_ret (pe_ifExp (pt_cmpR op_gt (pe_callB call_len_seq (by rfl) T.n_len (by decide +kernel) (pa_cons (pv 1) pa_nil)) pe_int (nomark _)) (pe_op op_cat (pe_slice sl_list (pv 1) po_none (po_some (pv 2))) (pe_slice sl_list (pv 1) (po_some (pe_op op_add (pv 2) pe_int)) po_none)) (pe_lst (pa_cons pe_str pa_nil))))) pss_nil)
  (pss_one (ps_ret (pe_ifExp (pt_cmpR op_eq (pv 3) pe_int (nomark _)) (pe_slice sl_list (pv 1) po_none (po_some (pe_op op_add (pv 2) pe_int))) (pe_op op_cat (pv 1) (pe_lst (pa_cons (pv 5) pa_nil)))))))))))), ?_⟩
    have M := Mid.none O
    have bt : Bt p H H := ⟨But.of (.refl _)⟩
    have ly : ys.length ≤ 1100 := by unfold wgt at wy; omega
    have ln : (ys.map V.str).length = ys.length := List.length_map _
    have sq0 : SqL K H it (ys.map V.str) ∨ SqT K H it (ys.map V.str) := .inl (SqL.of g_it)
    have lp : 0 < ys.length := List.length_pos_iff.mpr yne
    repeat (first | (with_reducible refine st_tC ?_) | (with_reducible refine st_tOp ?_) | ((with_reducible apply st_n); rfl; rfl; (first | trivial | (show _ ≤ _; omega) | (show _ < _; omega) | (show _ ∨ _; omega) | assumption | exact ⟨by assumption, by omega⟩ | exact ⟨W30.one, by omega⟩ | fail); rfl) | (with_reducible refine st_i0 rfl rfl rfl ?_) | ((with_reducible refine st_i rfl rfl ?_ rfl ?_); first | omega | exact ⟨by decide, by decide, by decide⟩ | exact .inl ⟨by decide, by decide⟩ | exact .inl ⟨by omega, by omega⟩ | exact .inr ⟨by omega, by omega⟩ | fail) | ((fail_if_success refine Exists.intro (α := Nat → Nat → L2.St → Hp → Prop) ?_ ?_); (fail_if_success refine Exists.intro (α := L2.St → Hp → Prop) ?_ ?_); (fail_if_success refine Exists.intro (α := Nat → L2.St → Hp → Prop) ?_ ?_); apply Exists.intro) | ((refine And.intro ?_ ?_); first | with_reducible rfl | with_reducible assumption | rfl | ((with_reducible apply SqL.of); assumption) | ((with_reducible apply SqT.of); assumption) | ((with_reducible apply OwnC.cl); assumption) | (with_reducible exact isI_int _) | exact within_args | (with_reducible exact upd_same) | ((with_reducible apply Mid.o); assumption) | ((with_reducible apply Mid.t); assumption) | exact .inl ⟨rfl, _, SqL.of (by assumption)⟩ | (with_reducible exact ⟨_, SqT.of (by assumption)⟩) | (with_reducible exact ⟨_, SqL.of (by assumption)⟩) | omega | exact Nat.le_of_ble_eq_true rfl | exact nat9 (by omega) | exact ⟨_, rfl⟩ | (show _ ≤ sizeLine; decide) | exact ⟨by decide, by decide, by decide⟩ | exact .inl ⟨by decide, by decide⟩ | exact .inl ⟨by omega, by omega⟩ | exact .inr ⟨by omega, by omega⟩ | assumption | fail) | ((with_reducible refine iteF' ?_ ?_); first | rfl | exact decide_eq_false (by omega) | exact in_no (by omega) (by omega) | exact in_no (by omega) (by assumption) | (simp <;> fail) | fail) | ((with_reducible refine iteT' ?_ ?_); first | rfl | exact decide_eq_true (by omega) | (simp <;> fail) | fail))
    intro at' H1 at'0 at'1 O_at' B_at'; obtain ⟨_, _, _, hpX, _⟩ := id M.o; replace bt := bt.but B_at' hpX; replace g_it := B_at' _ _ g_it np_it; replace M := M.draw O_at' B_at'; obtain ⟨at', rfl⟩ := Int.eq_ofNat_of_zero_le at'0; clear O_at' B_at'
    repeat (first | (with_reducible refine st_tC ?_) | (with_reducible refine st_tOp ?_) | ((with_reducible apply st_n); rfl; rfl; (first | trivial | (show _ ≤ _; omega) | (show _ < _; omega) | (show _ ∨ _; omega) | assumption | exact ⟨by assumption, by omega⟩ | exact ⟨W30.one, by omega⟩ | fail); rfl) | (with_reducible refine st_i0 rfl rfl rfl ?_) | ((with_reducible refine st_i rfl rfl ?_ rfl ?_); first | omega | exact ⟨by decide, by decide, by decide⟩ | exact .inl ⟨by decide, by decide⟩ | exact .inl ⟨by omega, by omega⟩ | exact .inr ⟨by omega, by omega⟩ | fail) | ((fail_if_success refine Exists.intro (α := Nat → Nat → L2.St → Hp → Prop) ?_ ?_); (fail_if_success refine Exists.intro (α := L2.St → Hp → Prop) ?_ ?_); (fail_if_success refine Exists.intro (α := Nat → L2.St → Hp → Prop) ?_ ?_); apply Exists.intro) | ((refine And.intro ?_ ?_); first | with_reducible rfl | with_reducible assumption | rfl | ((with_reducible apply SqL.of); assumption) | ((with_reducible apply SqT.of); assumption) | ((with_reducible apply OwnC.cl); assumption) | (with_reducible exact isI_int _) | exact within_args | (with_reducible exact upd_same) | ((with_reducible apply Mid.o); assumption) | ((with_reducible apply Mid.t); assumption) | exact .inl ⟨rfl, _, SqL.of (by assumption)⟩ | (with_reducible exact ⟨_, SqT.of (by assumption)⟩) | (with_reducible exact ⟨_, SqL.of (by assumption)⟩) | omega | exact Nat.le_of_ble_eq_true rfl | exact nat9 (by omega) | exact ⟨_, rfl⟩ | (show _ ≤ sizeLine; decide) | exact ⟨by decide, by decide, by decide⟩ | exact .inl ⟨by decide, by decide⟩ | exact .inl ⟨by omega, by omega⟩ | exact .inr ⟨by omega, by omega⟩ | assumption | fail) | ((with_reducible refine iteF' ?_ ?_); first | rfl | exact decide_eq_false (by omega) | exact in_no (by omega) (by omega) | exact in_no (by omega) (by assumption) | (simp <;> fail) | fail) | ((with_reducible refine iteT' ?_ ?_); first | rfl | exact decide_eq_true (by omega) | (simp <;> fail) | fail))
    intro way H2 way0 way1 O_way B_way; obtain ⟨_, _, _, hpX, _⟩ := id M.o; replace bt := bt.but B_way hpX; replace g_it := B_way _ _ g_it np_it; replace M := M.draw O_way B_way; obtain ⟨way, rfl⟩ := Int.eq_ofNat_of_zero_le way0; clear O_way B_way
    repeat (first | (refine ⟨"7", 140, rfl, rfl, by decide +kernel, by decide, fun N0 hN0 => ?_⟩) | (refine ⟨"7", 141, rfl, rfl, by decide +kernel, by decide, fun N1 hN1 => ?_⟩) | (refine ⟨"0", 5000, rfl, rfl, by decide +kernel, by decide, fun N2 hN2 => ?_⟩) | (with_reducible refine st_tC ?_) | (with_reducible refine st_tOp ?_) | ((with_reducible apply st_n); rfl; rfl; (first | trivial | (show _ ≤ _; omega) | (show _ < _; omega) | (show _ ∨ _; omega) | assumption | exact ⟨by assumption, by omega⟩ | exact ⟨W30.one, by omega⟩ | fail); rfl) | (with_reducible refine st_i0 rfl rfl rfl ?_) | ((with_reducible refine st_i rfl rfl ?_ rfl ?_); first | omega | exact ⟨by decide, by decide, by decide⟩ | exact .inl ⟨by decide, by decide⟩ | exact .inl ⟨by omega, by omega⟩ | exact .inr ⟨by omega, by omega⟩ | fail) | ((fail_if_success refine Exists.intro (α := Nat → Nat → L2.St → Hp → Prop) ?_ ?_); (fail_if_success refine Exists.intro (α := L2.St → Hp → Prop) ?_ ?_); (fail_if_success refine Exists.intro (α := Nat → L2.St → Hp → Prop) ?_ ?_); apply Exists.intro) | ((refine And.intro ?_ ?_); first | with_reducible rfl | with_reducible assumption | rfl | ((with_reducible apply SqL.of); assumption) | ((with_reducible apply SqT.of); assumption) | ((with_reducible apply OwnC.cl); assumption) | (with_reducible exact isI_int _) | exact within_args | (with_reducible exact upd_same) | ((with_reducible apply Mid.o); assumption) | ((with_reducible apply Mid.t); assumption) | exact .inl ⟨rfl, _, SqL.of (by assumption)⟩ | (with_reducible exact ⟨_, SqT.of (by assumption)⟩) | (with_reducible exact ⟨_, SqL.of (by assumption)⟩) | omega | exact Nat.le_of_ble_eq_true rfl | exact nat9 (by omega) | exact ⟨_, rfl⟩ | (show _ ≤ sizeLine; decide) | exact ⟨by decide, by decide, by decide⟩ | exact .inl ⟨by decide, by decide⟩ | exact .inl ⟨by omega, by omega⟩ | exact .inr ⟨by omega, by omega⟩ | assumption | fail) | ((with_reducible refine iteF' ?_ ?_); first | rfl | exact decide_eq_false (by omega) | exact in_no (by omega) (by omega) | exact in_no (by omega) (by assumption) | (simp <;> fail) | fail) | ((with_reducible refine iteT' ?_ ?_); first | rfl | exact decide_eq_true (by omega) | (simp <;> fail) | fail))
    have o0 : ItOk N0 := by
      rw [hN0]
      exact ⟨MN.mul_asc (litA (by decide +kernel) (by decide +kernel)).1, Nat.le_trans (mul_len _ _) (by decide +kernel)⟩
    have o1 : ItOk N1 := by
      rw [hN1]
      exact ⟨MN.mul_asc (litA (by decide +kernel) (by decide +kernel)).1, Nat.le_trans (mul_len _ _) (by decide +kernel)⟩
    have l2 : N2.length ≤ 5000 := by
      rw [hN2]
      exact Nat.le_trans (mul_len _ _) (by decide +kernel)
    have lN : (("1" : Str) ++ N2).length ≤ 5001 := by
      rw [Str.length_append]
      have : ("1" : Str).length = 1 := by decide +kernel
      omega
    have o2 : ItOk (("1" : Str) ++ N2) := by
      refine ⟨fun c hc => ?_, lN⟩
      have e : MT.cs (("1" : Str) ++ N2) = MT.cs ("1" : Str) ++ MT.cs N2 := cs_app _ _
      rw [e] at hc
      rcases List.mem_append.mp hc with h | h
      · exact (litA (s := "1") (by decide +kernel) (by decide +kernel)).1 c h
      · refine MN.mul_asc (x := "0") (n := 5000) (litA (by decide +kernel) (by decide +kernel)).1 c ?_
        rw [← hN2]
        exact h
    refine ⟨by rw [Str.length_append] at lN; rw [sizeLine_eq]; omega, ?_⟩
    generalize (("1" : Str) ++ N2) = N3 at *
    clear hN0 hN1 hN2 l2
    repeat (first | (with_reducible refine st_tC ?_) | (with_reducible refine st_tOp ?_) | ((with_reducible apply st_n); rfl; rfl; (first | trivial | (show _ ≤ _; omega) | (show _ < _; omega) | (show _ ∨ _; omega) | assumption | exact ⟨by assumption, by omega⟩ | exact ⟨W30.one, by omega⟩ | fail); rfl) | (with_reducible refine st_i0 rfl rfl rfl ?_) | ((with_reducible refine st_i rfl rfl ?_ rfl ?_); first | omega | exact ⟨by decide, by decide, by decide⟩ | exact .inl ⟨by decide, by decide⟩ | exact .inl ⟨by omega, by omega⟩ | exact .inr ⟨by omega, by omega⟩ | fail) | ((fail_if_success refine Exists.intro (α := Nat → Nat → L2.St → Hp → Prop) ?_ ?_); (fail_if_success refine Exists.intro (α := L2.St → Hp → Prop) ?_ ?_); (fail_if_success refine Exists.intro (α := Nat → L2.St → Hp → Prop) ?_ ?_); apply Exists.intro) | ((refine And.intro ?_ ?_); first | with_reducible rfl | with_reducible assumption | rfl | ((with_reducible apply SqL.of); assumption) | ((with_reducible apply SqT.of); assumption) | ((with_reducible apply OwnC.cl); assumption) | (with_reducible exact isI_int _) | exact within_args | (with_reducible exact upd_same) | ((with_reducible apply Mid.o); assumption) | ((with_reducible apply Mid.t); assumption) | exact .inl ⟨rfl, _, SqL.of (by assumption)⟩ | (with_reducible exact ⟨_, SqT.of (by assumption)⟩) | (with_reducible exact ⟨_, SqL.of (by assumption)⟩) | omega | exact Nat.le_of_ble_eq_true rfl | exact nat9 (by omega) | exact ⟨_, rfl⟩ | (show _ ≤ sizeLine; decide) | exact ⟨by decide, by decide, by decide⟩ | exact .inl ⟨by decide, by decide⟩ | exact .inl ⟨by omega, by omega⟩ | exact .inr ⟨by omega, by omega⟩ | assumption | fail) | ((with_reducible refine iteF' ?_ ?_); first | rfl | exact decide_eq_false (by omega) | exact in_no (by omega) (by omega) | exact in_no (by omega) (by assumption) | (simp <;> fail) | fail) | ((with_reducible refine iteT' ?_ ?_); first | rfl | exact decide_eq_true (by omega) | (simp <;> fail) | fail))
    intro so h_so; have np_so := M.pD h_so; have nb_so := M.bD h_so; generalize hE : upd _ so _ = H3; obtain ⟨S_so, g_so⟩ := new_facts h_so hE; clear hE; replace M := M.same S_so; replace bt := bt.same S_so; replace g_it := S_so _ _ g_it
    repeat (first | (with_reducible refine st_tC ?_) | (with_reducible refine st_tOp ?_) | ((with_reducible apply st_n); rfl; rfl; (first | trivial | (show _ ≤ _; omega) | (show _ < _; omega) | (show _ ∨ _; omega) | assumption | exact ⟨by assumption, by omega⟩ | exact ⟨W30.one, by omega⟩ | fail); rfl) | (with_reducible refine st_i0 rfl rfl rfl ?_) | ((with_reducible refine st_i rfl rfl ?_ rfl ?_); first | omega | exact ⟨by decide, by decide, by decide⟩ | exact .inl ⟨by decide, by decide⟩ | exact .inl ⟨by omega, by omega⟩ | exact .inr ⟨by omega, by omega⟩ | fail) | ((fail_if_success refine Exists.intro (α := Nat → Nat → L2.St → Hp → Prop) ?_ ?_); (fail_if_success refine Exists.intro (α := L2.St → Hp → Prop) ?_ ?_); (fail_if_success refine Exists.intro (α := Nat → L2.St → Hp → Prop) ?_ ?_); apply Exists.intro) | ((refine And.intro ?_ ?_); first | with_reducible rfl | with_reducible assumption | rfl | ((with_reducible apply SqL.of); assumption) | ((with_reducible apply SqT.of); assumption) | ((with_reducible apply OwnC.cl); assumption) | (with_reducible exact isI_int _) | exact within_args | (with_reducible exact upd_same) | ((with_reducible apply Mid.o); assumption) | ((with_reducible apply Mid.t); assumption) | exact .inl ⟨rfl, _, SqL.of (by assumption)⟩ | (with_reducible exact ⟨_, SqT.of (by assumption)⟩) | (with_reducible exact ⟨_, SqL.of (by assumption)⟩) | omega | exact Nat.le_of_ble_eq_true rfl | exact nat9 (by omega) | exact ⟨_, rfl⟩ | (show _ ≤ sizeLine; decide) | exact ⟨by decide, by decide, by decide⟩ | exact .inl ⟨by decide, by decide⟩ | exact .inl ⟨by omega, by omega⟩ | exact .inr ⟨by omega, by omega⟩ | assumption | fail) | ((with_reducible refine iteF' ?_ ?_); first | rfl | exact decide_eq_false (by omega) | exact in_no (by omega) (by omega) | exact in_no (by omega) (by assumption) | (simp <;> fail) | fail) | ((with_reducible refine iteT' ?_ ?_); first | rfl | exact decide_eq_true (by omega) | (simp <;> fail) | fail))
    intro j_new new H4 e_new O_new B_new; obtain ⟨_, _, _, hpX, _⟩ := id M.o; replace bt := bt.but B_new hpX; replace g_it := B_new _ _ g_it np_it; replace M := M.draw O_new B_new; clear O_new B_new
    obtain ⟨o, rfl, oO⟩ : ∃ o, new = V.str o ∧ ItOk o := by
      have m := List.mem_of_getElem? e_new
      simp only [List.mem_cons, List.not_mem_nil, or_false] at m
      rcases m with rfl | rfl | rfl | rfl | rfl | rfl | rfl | rfl | rfl | rfl | rfl | rfl | rfl | rfl | rfl | rfl | rfl | rfl | rfl | rfl | rfl | rfl | rfl
      all_goals first | exact ⟨_, rfl, o0⟩ | exact ⟨_, rfl, o1⟩ | exact ⟨_, rfl, o2⟩ | exact ⟨_, rfl, litA (by decide +kernel) (by decide +kernel)⟩
    clear e_new j_new g_so S_so h_so o0 o1 o2 lN
    have fin : ∀ (zs : List Str) (l : Addr) (Hn : Hp), l ≠ p → Hn l = some (.lst (zs.map V.str)) → Mid [] p b (n + 3) Hn → Bt p H Hn → (∀ y ∈ zs, y ∈ ys ∨ y = o) → wgt zs ≤ wgt ys + 5002 → Q (.ref l) Hn := fun zs l Hn np g M' bt' hz hw =>
      k l zs Hn np g (M'.o.mono (by omega)) bt'.b (fun y hy => by
        rcases hz y hy with z | rfl
        · exact oy y z
        · exact oO) hw
    have mt : ∀ {y : Str} {j : Nat}, y ∈ ys.take j → y ∈ ys := fun {y j} h => List.mem_of_mem_take h
    have md : ∀ {y : Str} {j : Nat}, y ∈ ys.drop j → y ∈ ys := fun {y j} h => List.mem_of_mem_drop h
    have wo : wgt [o] ≤ 5002 := by
      have := oO.2
      rw [wgt_cons]
      show o.length + 1 + 0 ≤ 5002
      omega
    have w1 := wgt_two ys at'
    have w2 := wgt_drop ys at'
    have w4 := wgt_two ys (at' + 1)
    have at8 : at' < (ys.map V.str).length := by omega
    have wayC : way < 3 ∨ way = 3 ∨ way = 4 ∨ way = 5 ∨ way = 6 := by omega
    rcases wayC with h1 | rfl | rfl | rfl | rfl
    · repeat (first | (with_reducible refine st_tC ?_) | (with_reducible refine st_tOp ?_) | ((with_reducible apply st_n); rfl; rfl; (first | trivial | (show _ ≤ _; omega) | (show _ < _; omega) | (show _ ∨ _; omega) | assumption | exact ⟨by assumption, by omega⟩ | exact ⟨W30.one, by omega⟩ | fail); rfl) | (with_reducible refine st_i0 rfl rfl rfl ?_) | ((with_reducible refine st_i rfl rfl ?_ rfl ?_); first | omega | exact ⟨by decide, by decide, by decide⟩ | exact .inl ⟨by decide, by decide⟩ | exact .inl ⟨by omega, by omega⟩ | exact .inr ⟨by omega, by omega⟩ | fail) | ((fail_if_success refine Exists.intro (α := Nat → Nat → L2.St → Hp → Prop) ?_ ?_); (fail_if_success refine Exists.intro (α := L2.St → Hp → Prop) ?_ ?_); (fail_if_success refine Exists.intro (α := Nat → L2.St → Hp → Prop) ?_ ?_); apply Exists.intro) | ((refine And.intro ?_ ?_); first | with_reducible rfl | with_reducible assumption | rfl | ((with_reducible apply SqL.of); assumption) | ((with_reducible apply SqT.of); assumption) | ((with_reducible apply OwnC.cl); assumption) | (with_reducible exact isI_int _) | exact within_args | (with_reducible exact upd_same) | ((with_reducible apply Mid.o); assumption) | ((with_reducible apply Mid.t); assumption) | exact .inl ⟨rfl, _, SqL.of (by assumption)⟩ | (with_reducible exact ⟨_, SqT.of (by assumption)⟩) | (with_reducible exact ⟨_, SqL.of (by assumption)⟩) | omega | exact Nat.le_of_ble_eq_true rfl | exact nat9 (by omega) | exact ⟨_, rfl⟩ | (show _ ≤ sizeLine; decide) | exact ⟨by decide, by decide, by decide⟩ | exact .inl ⟨by decide, by decide⟩ | exact .inl ⟨by omega, by omega⟩ | exact .inr ⟨by omega, by omega⟩ | assumption | fail) | ((with_reducible refine iteF' ?_ ?_); first | rfl | exact decide_eq_false (by omega) | exact in_no (by omega) (by omega) | exact in_no (by omega) (by assumption) | (simp <;> fail) | fail) | ((with_reducible refine iteT' ?_ ?_); first | rfl | exact decide_eq_true (by omega) | (simp <;> fail) | fail))
      intro x1 h_x1; have np_x1 := M.pD h_x1; have nb_x1 := M.bD h_x1; generalize hE : upd _ x1 _ = Hx0; obtain ⟨S_x1, g_x1⟩ := new_facts h_x1 hE; clear hE; replace M := M.same S_x1; replace bt := bt.same S_x1; replace g_it := S_x1 _ _ g_it
      rw [cut_to, ← List.map_take] at g_x1
      repeat (first | (with_reducible refine st_tC ?_) | (with_reducible refine st_tOp ?_) | ((with_reducible apply st_n); rfl; rfl; (first | trivial | (show _ ≤ _; omega) | (show _ < _; omega) | (show _ ∨ _; omega) | assumption | exact ⟨by assumption, by omega⟩ | exact ⟨W30.one, by omega⟩ | fail); rfl) | (with_reducible refine st_i0 rfl rfl rfl ?_) | ((with_reducible refine st_i rfl rfl ?_ rfl ?_); first | omega | exact ⟨by decide, by decide, by decide⟩ | exact .inl ⟨by decide, by decide⟩ | exact .inl ⟨by omega, by omega⟩ | exact .inr ⟨by omega, by omega⟩ | fail) | ((fail_if_success refine Exists.intro (α := Nat → Nat → L2.St → Hp → Prop) ?_ ?_); (fail_if_success refine Exists.intro (α := L2.St → Hp → Prop) ?_ ?_); (fail_if_success refine Exists.intro (α := Nat → L2.St → Hp → Prop) ?_ ?_); apply Exists.intro) | ((refine And.intro ?_ ?_); first | with_reducible rfl | with_reducible assumption | rfl | ((with_reducible apply SqL.of); assumption) | ((with_reducible apply SqT.of); assumption) | ((with_reducible apply OwnC.cl); assumption) | (with_reducible exact isI_int _) | exact within_args | (with_reducible exact upd_same) | ((with_reducible apply Mid.o); assumption) | ((with_reducible apply Mid.t); assumption) | exact .inl ⟨rfl, _, SqL.of (by assumption)⟩ | (with_reducible exact ⟨_, SqT.of (by assumption)⟩) | (with_reducible exact ⟨_, SqL.of (by assumption)⟩) | omega | exact Nat.le_of_ble_eq_true rfl | exact nat9 (by omega) | exact ⟨_, rfl⟩ | (show _ ≤ sizeLine; decide) | exact ⟨by decide, by decide, by decide⟩ | exact .inl ⟨by decide, by decide⟩ | exact .inl ⟨by omega, by omega⟩ | exact .inr ⟨by omega, by omega⟩ | assumption | fail) | ((with_reducible refine iteF' ?_ ?_); first | rfl | exact decide_eq_false (by omega) | exact in_no (by omega) (by omega) | exact in_no (by omega) (by assumption) | (simp <;> fail) | fail) | ((with_reducible refine iteT' ?_ ?_); first | rfl | exact decide_eq_true (by omega) | (simp <;> fail) | fail))
      intro x2 h_x2; have np_x2 := M.pD h_x2; have nb_x2 := M.bD h_x2; generalize hE : upd _ x2 _ = Hx1; obtain ⟨S_x2, g_x2⟩ := new_facts h_x2 hE; clear hE; replace M := M.same S_x2; replace bt := bt.same S_x2; replace g_it := S_x2 _ _ g_it; replace g_x1 := S_x2 _ _ g_x1
      replace g_x2 : Hx1 x2 = some (.lst (([o] : List Str).map V.str)) := g_x2
      repeat (first | (with_reducible refine st_tC ?_) | (with_reducible refine st_tOp ?_) | ((with_reducible apply st_n); rfl; rfl; (first | trivial | (show _ ≤ _; omega) | (show _ < _; omega) | (show _ ∨ _; omega) | assumption | exact ⟨by assumption, by omega⟩ | exact ⟨W30.one, by omega⟩ | fail); rfl) | (with_reducible refine st_i0 rfl rfl rfl ?_) | ((with_reducible refine st_i rfl rfl ?_ rfl ?_); first | omega | exact ⟨by decide, by decide, by decide⟩ | exact .inl ⟨by decide, by decide⟩ | exact .inl ⟨by omega, by omega⟩ | exact .inr ⟨by omega, by omega⟩ | fail) | ((fail_if_success refine Exists.intro (α := Nat → Nat → L2.St → Hp → Prop) ?_ ?_); (fail_if_success refine Exists.intro (α := L2.St → Hp → Prop) ?_ ?_); (fail_if_success refine Exists.intro (α := Nat → L2.St → Hp → Prop) ?_ ?_); apply Exists.intro) | ((refine And.intro ?_ ?_); first | with_reducible rfl | with_reducible assumption | rfl | ((with_reducible apply SqL.of); assumption) | ((with_reducible apply SqT.of); assumption) | ((with_reducible apply OwnC.cl); assumption) | (with_reducible exact isI_int _) | exact within_args | (with_reducible exact upd_same) | ((with_reducible apply Mid.o); assumption) | ((with_reducible apply Mid.t); assumption) | exact .inl ⟨rfl, _, SqL.of (by assumption)⟩ | (with_reducible exact ⟨_, SqT.of (by assumption)⟩) | (with_reducible exact ⟨_, SqL.of (by assumption)⟩) | omega | exact Nat.le_of_ble_eq_true rfl | exact nat9 (by omega) | exact ⟨_, rfl⟩ | (show _ ≤ sizeLine; decide) | exact ⟨by decide, by decide, by decide⟩ | exact .inl ⟨by decide, by decide⟩ | exact .inl ⟨by omega, by omega⟩ | exact .inr ⟨by omega, by omega⟩ | assumption | fail) | ((with_reducible refine iteF' ?_ ?_); first | rfl | exact decide_eq_false (by omega) | exact in_no (by omega) (by omega) | exact in_no (by omega) (by assumption) | (simp <;> fail) | fail) | ((with_reducible refine iteT' ?_ ?_); first | rfl | exact decide_eq_true (by omega) | (simp <;> fail) | fail))
      refine ⟨by simp only [List.length_map, List.length_append, List.length_take, List.length_drop, List.length_cons, List.length_nil]; rw [sizeLine_eq]; omega, ?_⟩
      intro x3 h_x3; have np_x3 := M.pD h_x3; have nb_x3 := M.bD h_x3; generalize hE : upd _ x3 _ = Hx2; obtain ⟨S_x3, g_x3⟩ := new_facts h_x3 hE; clear hE; replace M := M.same S_x3; replace bt := bt.same S_x3; replace g_it := S_x3 _ _ g_it; replace g_x1 := S_x3 _ _ g_x1; replace g_x2 := S_x3 _ _ g_x2
      rw [← List.map_append] at g_x3
      repeat (first | (with_reducible refine st_tC ?_) | (with_reducible refine st_tOp ?_) | ((with_reducible apply st_n); rfl; rfl; (first | trivial | (show _ ≤ _; omega) | (show _ < _; omega) | (show _ ∨ _; omega) | assumption | exact ⟨by assumption, by omega⟩ | exact ⟨W30.one, by omega⟩ | fail); rfl) | (with_reducible refine st_i0 rfl rfl rfl ?_) | ((with_reducible refine st_i rfl rfl ?_ rfl ?_); first | omega | exact ⟨by decide, by decide, by decide⟩ | exact .inl ⟨by decide, by decide⟩ | exact .inl ⟨by omega, by omega⟩ | exact .inr ⟨by omega, by omega⟩ | fail) | ((fail_if_success refine Exists.intro (α := Nat → Nat → L2.St → Hp → Prop) ?_ ?_); (fail_if_success refine Exists.intro (α := L2.St → Hp → Prop) ?_ ?_); (fail_if_success refine Exists.intro (α := Nat → L2.St → Hp → Prop) ?_ ?_); apply Exists.intro) | ((refine And.intro ?_ ?_); first | with_reducible rfl | with_reducible assumption | rfl | ((with_reducible apply SqL.of); assumption) | ((with_reducible apply SqT.of); assumption) | ((with_reducible apply OwnC.cl); assumption) | (with_reducible exact isI_int _) | exact within_args | (with_reducible exact upd_same) | ((with_reducible apply Mid.o); assumption) | ((with_reducible apply Mid.t); assumption) | exact .inl ⟨rfl, _, SqL.of (by assumption)⟩ | (with_reducible exact ⟨_, SqT.of (by assumption)⟩) | (with_reducible exact ⟨_, SqL.of (by assumption)⟩) | omega | exact Nat.le_of_ble_eq_true rfl | exact nat9 (by omega) | exact ⟨_, rfl⟩ | (show _ ≤ sizeLine; decide) | exact ⟨by decide, by decide, by decide⟩ | exact .inl ⟨by decide, by decide⟩ | exact .inl ⟨by omega, by omega⟩ | exact .inr ⟨by omega, by omega⟩ | assumption | fail) | ((with_reducible refine iteF' ?_ ?_); first | rfl | exact decide_eq_false (by omega) | exact in_no (by omega) (by omega) | exact in_no (by omega) (by assumption) | (simp <;> fail) | fail) | ((with_reducible refine iteT' ?_ ?_); first | rfl | exact decide_eq_true (by omega) | (simp <;> fail) | fail))
      intro x4 h_x4; have np_x4 := M.pD h_x4; have nb_x4 := M.bD h_x4; generalize hE : upd _ x4 _ = Hx3; obtain ⟨S_x4, g_x4⟩ := new_facts h_x4 hE; clear hE; replace M := M.same S_x4; replace bt := bt.same S_x4; replace g_it := S_x4 _ _ g_it; replace g_x1 := S_x4 _ _ g_x1; replace g_x2 := S_x4 _ _ g_x2; replace g_x3 := S_x4 _ _ g_x3
      rw [cut_from1, ← List.map_drop] at g_x4
      repeat (first | (with_reducible refine st_tC ?_) | (with_reducible refine st_tOp ?_) | ((with_reducible apply st_n); rfl; rfl; (first | trivial | (show _ ≤ _; omega) | (show _ < _; omega) | (show _ ∨ _; omega) | assumption | exact ⟨by assumption, by omega⟩ | exact ⟨W30.one, by omega⟩ | fail); rfl) | (with_reducible refine st_i0 rfl rfl rfl ?_) | ((with_reducible refine st_i rfl rfl ?_ rfl ?_); first | omega | exact ⟨by decide, by decide, by decide⟩ | exact .inl ⟨by decide, by decide⟩ | exact .inl ⟨by omega, by omega⟩ | exact .inr ⟨by omega, by omega⟩ | fail) | ((fail_if_success refine Exists.intro (α := Nat → Nat → L2.St → Hp → Prop) ?_ ?_); (fail_if_success refine Exists.intro (α := L2.St → Hp → Prop) ?_ ?_); (fail_if_success refine Exists.intro (α := Nat → L2.St → Hp → Prop) ?_ ?_); apply Exists.intro) | ((refine And.intro ?_ ?_); first | with_reducible rfl | with_reducible assumption | rfl | ((with_reducible apply SqL.of); assumption) | ((with_reducible apply SqT.of); assumption) | ((with_reducible apply OwnC.cl); assumption) | (with_reducible exact isI_int _) | exact within_args | (with_reducible exact upd_same) | ((with_reducible apply Mid.o); assumption) | ((with_reducible apply Mid.t); assumption) | exact .inl ⟨rfl, _, SqL.of (by assumption)⟩ | (with_reducible exact ⟨_, SqT.of (by assumption)⟩) | (with_reducible exact ⟨_, SqL.of (by assumption)⟩) | omega | exact Nat.le_of_ble_eq_true rfl | exact nat9 (by omega) | exact ⟨_, rfl⟩ | (show _ ≤ sizeLine; decide) | exact ⟨by decide, by decide, by decide⟩ | exact .inl ⟨by decide, by decide⟩ | exact .inl ⟨by omega, by omega⟩ | exact .inr ⟨by omega, by omega⟩ | assumption | fail) | ((with_reducible refine iteF' ?_ ?_); first | rfl | exact decide_eq_false (by omega) | exact in_no (by omega) (by omega) | exact in_no (by omega) (by assumption) | (simp <;> fail) | fail) | ((with_reducible refine iteT' ?_ ?_); first | rfl | exact decide_eq_true (by omega) | (simp <;> fail) | fail))
      refine ⟨by simp only [List.length_map, List.length_append, List.length_take, List.length_drop, List.length_cons, List.length_nil]; rw [sizeLine_eq]; omega, ?_⟩
      intro x5 h_x5; have np_x5 := M.pD h_x5; have nb_x5 := M.bD h_x5; generalize hE : upd _ x5 _ = Hx4; obtain ⟨S_x5, g_x5⟩ := new_facts h_x5 hE; clear hE; replace M := M.same S_x5; replace bt := bt.same S_x5; replace g_it := S_x5 _ _ g_it; replace g_x1 := S_x5 _ _ g_x1; replace g_x2 := S_x5 _ _ g_x2; replace g_x3 := S_x5 _ _ g_x3; replace g_x4 := S_x5 _ _ g_x4
      rw [← List.map_append] at g_x5
      refine fin (ys.take at' ++ [o] ++ ys.drop (at' + 1)) x5 Hx4 np_x5 g_x5 M bt (fun y hy => ?_) (by simp only [wgt_app]; omega)
      rcases List.mem_append.mp hy with z | z
      · rcases List.mem_append.mp z with z | z
        · exact .inl (mt z)
        · exact .inr (List.mem_singleton.mp z)
      · exact .inl (md z)
    · repeat (first | (with_reducible refine st_tC ?_) | (with_reducible refine st_tOp ?_) | ((with_reducible apply st_n); rfl; rfl; (first | trivial | (show _ ≤ _; omega) | (show _ < _; omega) | (show _ ∨ _; omega) | assumption | exact ⟨by assumption, by omega⟩ | exact ⟨W30.one, by omega⟩ | fail); rfl) | (with_reducible refine st_i0 rfl rfl rfl ?_) | ((with_reducible refine st_i rfl rfl ?_ rfl ?_); first | omega | exact ⟨by decide, by decide, by decide⟩ | exact .inl ⟨by decide, by decide⟩ | exact .inl ⟨by omega, by omega⟩ | exact .inr ⟨by omega, by omega⟩ | fail) | ((fail_if_success refine Exists.intro (α := Nat → Nat → L2.St → Hp → Prop) ?_ ?_); (fail_if_success refine Exists.intro (α := L2.St → Hp → Prop) ?_ ?_); (fail_if_success refine Exists.intro (α := Nat → L2.St → Hp → Prop) ?_ ?_); apply Exists.intro) | ((refine And.intro ?_ ?_); first | with_reducible rfl | with_reducible assumption | rfl | ((with_reducible apply SqL.of); assumption) | ((with_reducible apply SqT.of); assumption) | ((with_reducible apply OwnC.cl); assumption) | (with_reducible exact isI_int _) | exact within_args | (with_reducible exact upd_same) | ((with_reducible apply Mid.o); assumption) | ((with_reducible apply Mid.t); assumption) | exact .inl ⟨rfl, _, SqL.of (by assumption)⟩ | (with_reducible exact ⟨_, SqT.of (by assumption)⟩) | (with_reducible exact ⟨_, SqL.of (by assumption)⟩) | omega | exact Nat.le_of_ble_eq_true rfl | exact nat9 (by omega) | exact ⟨_, rfl⟩ | (show _ ≤ sizeLine; decide) | exact ⟨by decide, by decide, by decide⟩ | exact .inl ⟨by decide, by decide⟩ | exact .inl ⟨by omega, by omega⟩ | exact .inr ⟨by omega, by omega⟩ | assumption | fail) | ((with_reducible refine iteF' ?_ ?_); first | rfl | exact decide_eq_false (by omega) | exact in_no (by omega) (by omega) | exact in_no (by omega) (by assumption) | (simp <;> fail) | fail) | ((with_reducible refine iteT' ?_ ?_); first | rfl | exact decide_eq_true (by omega) | (simp <;> fail) | fail))
      intro x1 h_x1; have np_x1 := M.pD h_x1; have nb_x1 := M.bD h_x1; generalize hE : upd _ x1 _ = Hx0; obtain ⟨S_x1, g_x1⟩ := new_facts h_x1 hE; clear hE; replace M := M.same S_x1; replace bt := bt.same S_x1; replace g_it := S_x1 _ _ g_it
      rw [cut_to, ← List.map_take] at g_x1
      repeat (first | (with_reducible refine st_tC ?_) | (with_reducible refine st_tOp ?_) | ((with_reducible apply st_n); rfl; rfl; (first | trivial | (show _ ≤ _; omega) | (show _ < _; omega) | (show _ ∨ _; omega) | assumption | exact ⟨by assumption, by omega⟩ | exact ⟨W30.one, by omega⟩ | fail); rfl) | (with_reducible refine st_i0 rfl rfl rfl ?_) | ((with_reducible refine st_i rfl rfl ?_ rfl ?_); first | omega | exact ⟨by decide, by decide, by decide⟩ | exact .inl ⟨by decide, by decide⟩ | exact .inl ⟨by omega, by omega⟩ | exact .inr ⟨by omega, by omega⟩ | fail) | ((fail_if_success refine Exists.intro (α := Nat → Nat → L2.St → Hp → Prop) ?_ ?_); (fail_if_success refine Exists.intro (α := L2.St → Hp → Prop) ?_ ?_); (fail_if_success refine Exists.intro (α := Nat → L2.St → Hp → Prop) ?_ ?_); apply Exists.intro) | ((refine And.intro ?_ ?_); first | with_reducible rfl | with_reducible assumption | rfl | ((with_reducible apply SqL.of); assumption) | ((with_reducible apply SqT.of); assumption) | ((with_reducible apply OwnC.cl); assumption) | (with_reducible exact isI_int _) | exact within_args | (with_reducible exact upd_same) | ((with_reducible apply Mid.o); assumption) | ((with_reducible apply Mid.t); assumption) | exact .inl ⟨rfl, _, SqL.of (by assumption)⟩ | (with_reducible exact ⟨_, SqT.of (by assumption)⟩) | (with_reducible exact ⟨_, SqL.of (by assumption)⟩) | omega | exact Nat.le_of_ble_eq_true rfl | exact nat9 (by omega) | exact ⟨_, rfl⟩ | (show _ ≤ sizeLine; decide) | exact ⟨by decide, by decide, by decide⟩ | exact .inl ⟨by decide, by decide⟩ | exact .inl ⟨by omega, by omega⟩ | exact .inr ⟨by omega, by omega⟩ | assumption | fail) | ((with_reducible refine iteF' ?_ ?_); first | rfl | exact decide_eq_false (by omega) | exact in_no (by omega) (by omega) | exact in_no (by omega) (by assumption) | (simp <;> fail) | fail) | ((with_reducible refine iteT' ?_ ?_); first | rfl | exact decide_eq_true (by omega) | (simp <;> fail) | fail))
      intro x2 h_x2; have np_x2 := M.pD h_x2; have nb_x2 := M.bD h_x2; generalize hE : upd _ x2 _ = Hx1; obtain ⟨S_x2, g_x2⟩ := new_facts h_x2 hE; clear hE; replace M := M.same S_x2; replace bt := bt.same S_x2; replace g_it := S_x2 _ _ g_it; replace g_x1 := S_x2 _ _ g_x1
      replace g_x2 : Hx1 x2 = some (.lst (([o] : List Str).map V.str)) := g_x2
      repeat (first | (with_reducible refine st_tC ?_) | (with_reducible refine st_tOp ?_) | ((with_reducible apply st_n); rfl; rfl; (first | trivial | (show _ ≤ _; omega) | (show _ < _; omega) | (show _ ∨ _; omega) | assumption | exact ⟨by assumption, by omega⟩ | exact ⟨W30.one, by omega⟩ | fail); rfl) | (with_reducible refine st_i0 rfl rfl rfl ?_) | ((with_reducible refine st_i rfl rfl ?_ rfl ?_); first | omega | exact ⟨by decide, by decide, by decide⟩ | exact .inl ⟨by decide, by decide⟩ | exact .inl ⟨by omega, by omega⟩ | exact .inr ⟨by omega, by omega⟩ | fail) | ((fail_if_success refine Exists.intro (α := Nat → Nat → L2.St → Hp → Prop) ?_ ?_); (fail_if_success refine Exists.intro (α := L2.St → Hp → Prop) ?_ ?_); (fail_if_success refine Exists.intro (α := Nat → L2.St → Hp → Prop) ?_ ?_); apply Exists.intro) | ((refine And.intro ?_ ?_); first | with_reducible rfl | with_reducible assumption | rfl | ((with_reducible apply SqL.of); assumption) | ((with_reducible apply SqT.of); assumption) | ((with_reducible apply OwnC.cl); assumption) | (with_reducible exact isI_int _) | exact within_args | (with_reducible exact upd_same) | ((with_reducible apply Mid.o); assumption) | ((with_reducible apply Mid.t); assumption) | exact .inl ⟨rfl, _, SqL.of (by assumption)⟩ | (with_reducible exact ⟨_, SqT.of (by assumption)⟩) | (with_reducible exact ⟨_, SqL.of (by assumption)⟩) | omega | exact Nat.le_of_ble_eq_true rfl | exact nat9 (by omega) | exact ⟨_, rfl⟩ | (show _ ≤ sizeLine; decide) | exact ⟨by decide, by decide, by decide⟩ | exact .inl ⟨by decide, by decide⟩ | exact .inl ⟨by omega, by omega⟩ | exact .inr ⟨by omega, by omega⟩ | assumption | fail) | ((with_reducible refine iteF' ?_ ?_); first | rfl | exact decide_eq_false (by omega) | exact in_no (by omega) (by omega) | exact in_no (by omega) (by assumption) | (simp <;> fail) | fail) | ((with_reducible refine iteT' ?_ ?_); first | rfl | exact decide_eq_true (by omega) | (simp <;> fail) | fail))
      refine ⟨by simp only [List.length_map, List.length_append, List.length_take, List.length_drop, List.length_cons, List.length_nil]; rw [sizeLine_eq]; omega, ?_⟩
      intro x3 h_x3; have np_x3 := M.pD h_x3; have nb_x3 := M.bD h_x3; generalize hE : upd _ x3 _ = Hx2; obtain ⟨S_x3, g_x3⟩ := new_facts h_x3 hE; clear hE; replace M := M.same S_x3; replace bt := bt.same S_x3; replace g_it := S_x3 _ _ g_it; replace g_x1 := S_x3 _ _ g_x1; replace g_x2 := S_x3 _ _ g_x2
      rw [← List.map_append] at g_x3
      repeat (first | (with_reducible refine st_tC ?_) | (with_reducible refine st_tOp ?_) | ((with_reducible apply st_n); rfl; rfl; (first | trivial | (show _ ≤ _; omega) | (show _ < _; omega) | (show _ ∨ _; omega) | assumption | exact ⟨by assumption, by omega⟩ | exact ⟨W30.one, by omega⟩ | fail); rfl) | (with_reducible refine st_i0 rfl rfl rfl ?_) | ((with_reducible refine st_i rfl rfl ?_ rfl ?_); first | omega | exact ⟨by decide, by decide, by decide⟩ | exact .inl ⟨by decide, by decide⟩ | exact .inl ⟨by omega, by omega⟩ | exact .inr ⟨by omega, by omega⟩ | fail) | ((fail_if_success refine Exists.intro (α := Nat → Nat → L2.St → Hp → Prop) ?_ ?_); (fail_if_success refine Exists.intro (α := L2.St → Hp → Prop) ?_ ?_); (fail_if_success refine Exists.intro (α := Nat → L2.St → Hp → Prop) ?_ ?_); apply Exists.intro) | ((refine And.intro ?_ ?_); first | with_reducible rfl | with_reducible assumption | rfl | ((with_reducible apply SqL.of); assumption) | ((with_reducible apply SqT.of); assumption) | ((with_reducible apply OwnC.cl); assumption) | (with_reducible exact isI_int _) | exact within_args | (with_reducible exact upd_same) | ((with_reducible apply Mid.o); assumption) | ((with_reducible apply Mid.t); assumption) | exact .inl ⟨rfl, _, SqL.of (by assumption)⟩ | (with_reducible exact ⟨_, SqT.of (by assumption)⟩) | (with_reducible exact ⟨_, SqL.of (by assumption)⟩) | omega | exact Nat.le_of_ble_eq_true rfl | exact nat9 (by omega) | exact ⟨_, rfl⟩ | (show _ ≤ sizeLine; decide) | exact ⟨by decide, by decide, by decide⟩ | exact .inl ⟨by decide, by decide⟩ | exact .inl ⟨by omega, by omega⟩ | exact .inr ⟨by omega, by omega⟩ | assumption | fail) | ((with_reducible refine iteF' ?_ ?_); first | rfl | exact decide_eq_false (by omega) | exact in_no (by omega) (by omega) | exact in_no (by omega) (by assumption) | (simp <;> fail) | fail) | ((with_reducible refine iteT' ?_ ?_); first | rfl | exact decide_eq_true (by omega) | (simp <;> fail) | fail))
      intro x4 h_x4; have np_x4 := M.pD h_x4; have nb_x4 := M.bD h_x4; generalize hE : upd _ x4 _ = Hx3; obtain ⟨S_x4, g_x4⟩ := new_facts h_x4 hE; clear hE; replace M := M.same S_x4; replace bt := bt.same S_x4; replace g_it := S_x4 _ _ g_it; replace g_x1 := S_x4 _ _ g_x1; replace g_x2 := S_x4 _ _ g_x2; replace g_x3 := S_x4 _ _ g_x3
      rw [cut_from, ← List.map_drop] at g_x4
      repeat (first | (with_reducible refine st_tC ?_) | (with_reducible refine st_tOp ?_) | ((with_reducible apply st_n); rfl; rfl; (first | trivial | (show _ ≤ _; omega) | (show _ < _; omega) | (show _ ∨ _; omega) | assumption | exact ⟨by assumption, by omega⟩ | exact ⟨W30.one, by omega⟩ | fail); rfl) | (with_reducible refine st_i0 rfl rfl rfl ?_) | ((with_reducible refine st_i rfl rfl ?_ rfl ?_); first | omega | exact ⟨by decide, by decide, by decide⟩ | exact .inl ⟨by decide, by decide⟩ | exact .inl ⟨by omega, by omega⟩ | exact .inr ⟨by omega, by omega⟩ | fail) | ((fail_if_success refine Exists.intro (α := Nat → Nat → L2.St → Hp → Prop) ?_ ?_); (fail_if_success refine Exists.intro (α := L2.St → Hp → Prop) ?_ ?_); (fail_if_success refine Exists.intro (α := Nat → L2.St → Hp → Prop) ?_ ?_); apply Exists.intro) | ((refine And.intro ?_ ?_); first | with_reducible rfl | with_reducible assumption | rfl | ((with_reducible apply SqL.of); assumption) | ((with_reducible apply SqT.of); assumption) | ((with_reducible apply OwnC.cl); assumption) | (with_reducible exact isI_int _) | exact within_args | (with_reducible exact upd_same) | ((with_reducible apply Mid.o); assumption) | ((with_reducible apply Mid.t); assumption) | exact .inl ⟨rfl, _, SqL.of (by assumption)⟩ | (with_reducible exact ⟨_, SqT.of (by assumption)⟩) | (with_reducible exact ⟨_, SqL.of (by assumption)⟩) | omega | exact Nat.le_of_ble_eq_true rfl | exact nat9 (by omega) | exact ⟨_, rfl⟩ | (show _ ≤ sizeLine; decide) | exact ⟨by decide, by decide, by decide⟩ | exact .inl ⟨by decide, by decide⟩ | exact .inl ⟨by omega, by omega⟩ | exact .inr ⟨by omega, by omega⟩ | assumption | fail) | ((with_reducible refine iteF' ?_ ?_); first | rfl | exact decide_eq_false (by omega) | exact in_no (by omega) (by omega) | exact in_no (by omega) (by assumption) | (simp <;> fail) | fail) | ((with_reducible refine iteT' ?_ ?_); first | rfl | exact decide_eq_true (by omega) | (simp <;> fail) | fail))
      refine ⟨by simp only [List.length_map, List.length_append, List.length_take, List.length_drop, List.length_cons, List.length_nil]; rw [sizeLine_eq]; omega, ?_⟩
      intro x5 h_x5; have np_x5 := M.pD h_x5; have nb_x5 := M.bD h_x5; generalize hE : upd _ x5 _ = Hx4; obtain ⟨S_x5, g_x5⟩ := new_facts h_x5 hE; clear hE; replace M := M.same S_x5; replace bt := bt.same S_x5; replace g_it := S_x5 _ _ g_it; replace g_x1 := S_x5 _ _ g_x1; replace g_x2 := S_x5 _ _ g_x2; replace g_x3 := S_x5 _ _ g_x3; replace g_x4 := S_x5 _ _ g_x4
      rw [← List.map_append] at g_x5
      refine fin (ys.take at' ++ [o] ++ ys.drop at') x5 Hx4 np_x5 g_x5 M bt (fun y hy => ?_) (by simp only [wgt_app]; omega)
      rcases List.mem_append.mp hy with z | z
      · rcases List.mem_append.mp z with z | z
        · exact .inl (mt z)
        · exact .inr (List.mem_singleton.mp z)
      · exact .inl (md z)
    · have sq5 : SqL K H4 it (ys.map V.str) ∨ SqT K H4 it (ys.map V.str) := .inl (SqL.of g_it)
      repeat (first | (with_reducible refine st_tC ?_) | (with_reducible refine st_tOp ?_) | ((with_reducible apply st_n); rfl; rfl; (first | trivial | (show _ ≤ _; omega) | (show _ < _; omega) | (show _ ∨ _; omega) | assumption | exact ⟨by assumption, by omega⟩ | exact ⟨W30.one, by omega⟩ | fail); rfl) | (with_reducible refine st_i0 rfl rfl rfl ?_) | ((with_reducible refine st_i rfl rfl ?_ rfl ?_); first | omega | exact ⟨by decide, by decide, by decide⟩ | exact .inl ⟨by decide, by decide⟩ | exact .inl ⟨by omega, by omega⟩ | exact .inr ⟨by omega, by omega⟩ | fail) | ((fail_if_success refine Exists.intro (α := Nat → Nat → L2.St → Hp → Prop) ?_ ?_); (fail_if_success refine Exists.intro (α := L2.St → Hp → Prop) ?_ ?_); (fail_if_success refine Exists.intro (α := Nat → L2.St → Hp → Prop) ?_ ?_); apply Exists.intro) | ((refine And.intro ?_ ?_); first | with_reducible rfl | with_reducible assumption | rfl | ((with_reducible apply SqL.of); assumption) | ((with_reducible apply SqT.of); assumption) | ((with_reducible apply OwnC.cl); assumption) | (with_reducible exact isI_int _) | exact within_args | (with_reducible exact upd_same) | ((with_reducible apply Mid.o); assumption) | ((with_reducible apply Mid.t); assumption) | exact .inl ⟨rfl, _, SqL.of (by assumption)⟩ | (with_reducible exact ⟨_, SqT.of (by assumption)⟩) | (with_reducible exact ⟨_, SqL.of (by assumption)⟩) | omega | exact Nat.le_of_ble_eq_true rfl | exact nat9 (by omega) | exact ⟨_, rfl⟩ | (show _ ≤ sizeLine; decide) | exact ⟨by decide, by decide, by decide⟩ | exact .inl ⟨by decide, by decide⟩ | exact .inl ⟨by omega, by omega⟩ | exact .inr ⟨by omega, by omega⟩ | assumption | fail) | ((with_reducible refine iteF' ?_ ?_); first | rfl | exact decide_eq_false (by omega) | exact in_no (by omega) (by omega) | exact in_no (by omega) (by assumption) | (simp <;> fail) | fail) | ((with_reducible refine iteT' ?_ ?_); first | rfl | exact decide_eq_true (by omega) | (simp <;> fail) | fail))
      refine iteB (fun c => ?_) (fun c => ?_)
      · repeat (first | (with_reducible refine st_tC ?_) | (with_reducible refine st_tOp ?_) | ((with_reducible apply st_n); rfl; rfl; (first | trivial | (show _ ≤ _; omega) | (show _ < _; omega) | (show _ ∨ _; omega) | assumption | exact ⟨by assumption, by omega⟩ | exact ⟨W30.one, by omega⟩ | fail); rfl) | (with_reducible refine st_i0 rfl rfl rfl ?_) | ((with_reducible refine st_i rfl rfl ?_ rfl ?_); first | omega | exact ⟨by decide, by decide, by decide⟩ | exact .inl ⟨by decide, by decide⟩ | exact .inl ⟨by omega, by omega⟩ | exact .inr ⟨by omega, by omega⟩ | fail) | ((fail_if_success refine Exists.intro (α := Nat → Nat → L2.St → Hp → Prop) ?_ ?_); (fail_if_success refine Exists.intro (α := L2.St → Hp → Prop) ?_ ?_); (fail_if_success refine Exists.intro (α := Nat → L2.St → Hp → Prop) ?_ ?_); apply Exists.intro) | ((refine And.intro ?_ ?_); first | with_reducible rfl | with_reducible assumption | rfl | ((with_reducible apply SqL.of); assumption) | ((with_reducible apply SqT.of); assumption) | ((with_reducible apply OwnC.cl); assumption) | (with_reducible exact isI_int _) | exact within_args | (with_reducible exact upd_same) | ((with_reducible apply Mid.o); assumption) | ((with_reducible apply Mid.t); assumption) | exact .inl ⟨rfl, _, SqL.of (by assumption)⟩ | (with_reducible exact ⟨_, SqT.of (by assumption)⟩) | (with_reducible exact ⟨_, SqL.of (by assumption)⟩) | omega | exact Nat.le_of_ble_eq_true rfl | exact nat9 (by omega) | exact ⟨_, rfl⟩ | (show _ ≤ sizeLine; decide) | exact ⟨by decide, by decide, by decide⟩ | exact .inl ⟨by decide, by decide⟩ | exact .inl ⟨by omega, by omega⟩ | exact .inr ⟨by omega, by omega⟩ | assumption | fail) | ((with_reducible refine iteF' ?_ ?_); first | rfl | exact decide_eq_false (by omega) | exact in_no (by omega) (by omega) | exact in_no (by omega) (by assumption) | (simp <;> fail) | fail) | ((with_reducible refine iteT' ?_ ?_); first | rfl | exact decide_eq_true (by omega) | (simp <;> fail) | fail))
        intro x1 h_x1; have np_x1 := M.pD h_x1; have nb_x1 := M.bD h_x1; generalize hE : upd _ x1 _ = Hx0; obtain ⟨S_x1, g_x1⟩ := new_facts h_x1 hE; clear hE; replace M := M.same S_x1; replace bt := bt.same S_x1; replace g_it := S_x1 _ _ g_it
        rw [cut_to, ← List.map_take] at g_x1
        repeat (first | (with_reducible refine st_tC ?_) | (with_reducible refine st_tOp ?_) | ((with_reducible apply st_n); rfl; rfl; (first | trivial | (show _ ≤ _; omega) | (show _ < _; omega) | (show _ ∨ _; omega) | assumption | exact ⟨by assumption, by omega⟩ | exact ⟨W30.one, by omega⟩ | fail); rfl) | (with_reducible refine st_i0 rfl rfl rfl ?_) | ((with_reducible refine st_i rfl rfl ?_ rfl ?_); first | omega | exact ⟨by decide, by decide, by decide⟩ | exact .inl ⟨by decide, by decide⟩ | exact .inl ⟨by omega, by omega⟩ | exact .inr ⟨by omega, by omega⟩ | fail) | ((fail_if_success refine Exists.intro (α := Nat → Nat → L2.St → Hp → Prop) ?_ ?_); (fail_if_success refine Exists.intro (α := L2.St → Hp → Prop) ?_ ?_); (fail_if_success refine Exists.intro (α := Nat → L2.St → Hp → Prop) ?_ ?_); apply Exists.intro) | ((refine And.intro ?_ ?_); first | with_reducible rfl | with_reducible assumption | rfl | ((with_reducible apply SqL.of); assumption) | ((with_reducible apply SqT.of); assumption) | ((with_reducible apply OwnC.cl); assumption) | (with_reducible exact isI_int _) | exact within_args | (with_reducible exact upd_same) | ((with_reducible apply Mid.o); assumption) | ((with_reducible apply Mid.t); assumption) | exact .inl ⟨rfl, _, SqL.of (by assumption)⟩ | (with_reducible exact ⟨_, SqT.of (by assumption)⟩) | (with_reducible exact ⟨_, SqL.of (by assumption)⟩) | omega | exact Nat.le_of_ble_eq_true rfl | exact nat9 (by omega) | exact ⟨_, rfl⟩ | (show _ ≤ sizeLine; decide) | exact ⟨by decide, by decide, by decide⟩ | exact .inl ⟨by decide, by decide⟩ | exact .inl ⟨by omega, by omega⟩ | exact .inr ⟨by omega, by omega⟩ | assumption | fail) | ((with_reducible refine iteF' ?_ ?_); first | rfl | exact decide_eq_false (by omega) | exact in_no (by omega) (by omega) | exact in_no (by omega) (by assumption) | (simp <;> fail) | fail) | ((with_reducible refine iteT' ?_ ?_); first | rfl | exact decide_eq_true (by omega) | (simp <;> fail) | fail))
        intro x2 h_x2; have np_x2 := M.pD h_x2; have nb_x2 := M.bD h_x2; generalize hE : upd _ x2 _ = Hx1; obtain ⟨S_x2, g_x2⟩ := new_facts h_x2 hE; clear hE; replace M := M.same S_x2; replace bt := bt.same S_x2; replace g_it := S_x2 _ _ g_it; replace g_x1 := S_x2 _ _ g_x1
        rw [cut_from1, ← List.map_drop] at g_x2
        repeat (first | (with_reducible refine st_tC ?_) | (with_reducible refine st_tOp ?_) | ((with_reducible apply st_n); rfl; rfl; (first | trivial | (show _ ≤ _; omega) | (show _ < _; omega) | (show _ ∨ _; omega) | assumption | exact ⟨by assumption, by omega⟩ | exact ⟨W30.one, by omega⟩ | fail); rfl) | (with_reducible refine st_i0 rfl rfl rfl ?_) | ((with_reducible refine st_i rfl rfl ?_ rfl ?_); first | omega | exact ⟨by decide, by decide, by decide⟩ | exact .inl ⟨by decide, by decide⟩ | exact .inl ⟨by omega, by omega⟩ | exact .inr ⟨by omega, by omega⟩ | fail) | ((fail_if_success refine Exists.intro (α := Nat → Nat → L2.St → Hp → Prop) ?_ ?_); (fail_if_success refine Exists.intro (α := L2.St → Hp → Prop) ?_ ?_); (fail_if_success refine Exists.intro (α := Nat → L2.St → Hp → Prop) ?_ ?_); apply Exists.intro) | ((refine And.intro ?_ ?_); first | with_reducible rfl | with_reducible assumption | rfl | ((with_reducible apply SqL.of); assumption) | ((with_reducible apply SqT.of); assumption) | ((with_reducible apply OwnC.cl); assumption) | (with_reducible exact isI_int _) | exact within_args | (with_reducible exact upd_same) | ((with_reducible apply Mid.o); assumption) | ((with_reducible apply Mid.t); assumption) | exact .inl ⟨rfl, _, SqL.of (by assumption)⟩ | (with_reducible exact ⟨_, SqT.of (by assumption)⟩) | (with_reducible exact ⟨_, SqL.of (by assumption)⟩) | omega | exact Nat.le_of_ble_eq_true rfl | exact nat9 (by omega) | exact ⟨_, rfl⟩ | (show _ ≤ sizeLine; decide) | exact ⟨by decide, by decide, by decide⟩ | exact .inl ⟨by decide, by decide⟩ | exact .inl ⟨by omega, by omega⟩ | exact .inr ⟨by omega, by omega⟩ | assumption | fail) | ((with_reducible refine iteF' ?_ ?_); first | rfl | exact decide_eq_false (by omega) | exact in_no (by omega) (by omega) | exact in_no (by omega) (by assumption) | (simp <;> fail) | fail) | ((with_reducible refine iteT' ?_ ?_); first | rfl | exact decide_eq_true (by omega) | (simp <;> fail) | fail))
        refine ⟨by simp only [List.length_map, List.length_append, List.length_take, List.length_drop, List.length_cons, List.length_nil]; rw [sizeLine_eq]; omega, ?_⟩
        intro x3 h_x3; have np_x3 := M.pD h_x3; have nb_x3 := M.bD h_x3; generalize hE : upd _ x3 _ = Hx2; obtain ⟨S_x3, g_x3⟩ := new_facts h_x3 hE; clear hE; replace M := M.same S_x3; replace bt := bt.same S_x3; replace g_it := S_x3 _ _ g_it; replace g_x1 := S_x3 _ _ g_x1; replace g_x2 := S_x3 _ _ g_x2
        rw [← List.map_append] at g_x3
        refine fin (ys.take at' ++ ys.drop (at' + 1)) x3 Hx2 np_x3 g_x3 M bt (fun y hy => ?_) (by simp only [wgt_app]; omega)
        rcases List.mem_append.mp hy with z | z
        · exact .inl (mt z)
        · exact .inl (md z)
      · repeat (first | (with_reducible refine st_tC ?_) | (with_reducible refine st_tOp ?_) | ((with_reducible apply st_n); rfl; rfl; (first | trivial | (show _ ≤ _; omega) | (show _ < _; omega) | (show _ ∨ _; omega) | assumption | exact ⟨by assumption, by omega⟩ | exact ⟨W30.one, by omega⟩ | fail); rfl) | (with_reducible refine st_i0 rfl rfl rfl ?_) | ((with_reducible refine st_i rfl rfl ?_ rfl ?_); first | omega | exact ⟨by decide, by decide, by decide⟩ | exact .inl ⟨by decide, by decide⟩ | exact .inl ⟨by omega, by omega⟩ | exact .inr ⟨by omega, by omega⟩ | fail) | ((fail_if_success refine Exists.intro (α := Nat → Nat → L2.St → Hp → Prop) ?_ ?_); (fail_if_success refine Exists.intro (α := L2.St → Hp → Prop) ?_ ?_); (fail_if_success refine Exists.intro (α := Nat → L2.St → Hp → Prop) ?_ ?_); apply Exists.intro) | ((refine And.intro ?_ ?_); first | with_reducible rfl | with_reducible assumption | rfl | ((with_reducible apply SqL.of); assumption) | ((with_reducible apply SqT.of); assumption) | ((with_reducible apply OwnC.cl); assumption) | (with_reducible exact isI_int _) | exact within_args | (with_reducible exact upd_same) | ((with_reducible apply Mid.o); assumption) | ((with_reducible apply Mid.t); assumption) | exact .inl ⟨rfl, _, SqL.of (by assumption)⟩ | (with_reducible exact ⟨_, SqT.of (by assumption)⟩) | (with_reducible exact ⟨_, SqL.of (by assumption)⟩) | omega | exact Nat.le_of_ble_eq_true rfl | exact nat9 (by omega) | exact ⟨_, rfl⟩ | (show _ ≤ sizeLine; decide) | exact ⟨by decide, by decide, by decide⟩ | exact .inl ⟨by decide, by decide⟩ | exact .inl ⟨by omega, by omega⟩ | exact .inr ⟨by omega, by omega⟩ | assumption | fail) | ((with_reducible refine iteF' ?_ ?_); first | rfl | exact decide_eq_false (by omega) | exact in_no (by omega) (by omega) | exact in_no (by omega) (by assumption) | (simp <;> fail) | fail) | ((with_reducible refine iteT' ?_ ?_); first | rfl | exact decide_eq_true (by omega) | (simp <;> fail) | fail))
        intro x1 h_x1; have np_x1 := M.pD h_x1; have nb_x1 := M.bD h_x1; generalize hE : upd _ x1 _ = Hx0; obtain ⟨S_x1, g_x1⟩ := new_facts h_x1 hE; clear hE; replace M := M.same S_x1; replace bt := bt.same S_x1; replace g_it := S_x1 _ _ g_it
        refine k x1 [""] Hx0 np_x1 g_x1 (M.o.mono (by omega)) bt.b (fun y hy => ?_) ?_
        · rw [List.mem_singleton.mp hy]
          exact litA (by decide +kernel) (by decide +kernel)
        · have : wgt [("" : Str)] = 1 := by decide +kernel
          omega
    · repeat (first | (with_reducible refine st_tC ?_) | (with_reducible refine st_tOp ?_) | ((with_reducible apply st_n); rfl; rfl; (first | trivial | (show _ ≤ _; omega) | (show _ < _; omega) | (show _ ∨ _; omega) | assumption | exact ⟨by assumption, by omega⟩ | exact ⟨W30.one, by omega⟩ | fail); rfl) | (with_reducible refine st_i0 rfl rfl rfl ?_) | ((with_reducible refine st_i rfl rfl ?_ rfl ?_); first | omega | exact ⟨by decide, by decide, by decide⟩ | exact .inl ⟨by decide, by decide⟩ | exact .inl ⟨by omega, by omega⟩ | exact .inr ⟨by omega, by omega⟩ | fail) | ((fail_if_success refine Exists.intro (α := Nat → Nat → L2.St → Hp → Prop) ?_ ?_); (fail_if_success refine Exists.intro (α := L2.St → Hp → Prop) ?_ ?_); (fail_if_success refine Exists.intro (α := Nat → L2.St → Hp → Prop) ?_ ?_); apply Exists.intro) | ((refine And.intro ?_ ?_); first | with_reducible rfl | with_reducible assumption | rfl | ((with_reducible apply SqL.of); assumption) | ((with_reducible apply SqT.of); assumption) | ((with_reducible apply OwnC.cl); assumption) | (with_reducible exact isI_int _) | exact within_args | (with_reducible exact upd_same) | ((with_reducible apply Mid.o); assumption) | ((with_reducible apply Mid.t); assumption) | exact .inl ⟨rfl, _, SqL.of (by assumption)⟩ | (with_reducible exact ⟨_, SqT.of (by assumption)⟩) | (with_reducible exact ⟨_, SqL.of (by assumption)⟩) | omega | exact Nat.le_of_ble_eq_true rfl | exact nat9 (by omega) | exact ⟨_, rfl⟩ | (show _ ≤ sizeLine; decide) | exact ⟨by decide, by decide, by decide⟩ | exact .inl ⟨by decide, by decide⟩ | exact .inl ⟨by omega, by omega⟩ | exact .inr ⟨by omega, by omega⟩ | assumption | fail) | ((with_reducible refine iteF' ?_ ?_); first | rfl | exact decide_eq_false (by omega) | exact in_no (by omega) (by omega) | exact in_no (by omega) (by assumption) | (simp <;> fail) | fail) | ((with_reducible refine iteT' ?_ ?_); first | rfl | exact decide_eq_true (by omega) | (simp <;> fail) | fail))
      intro x1 h_x1; have np_x1 := M.pD h_x1; have nb_x1 := M.bD h_x1; generalize hE : upd _ x1 _ = Hx0; obtain ⟨S_x1, g_x1⟩ := new_facts h_x1 hE; clear hE; replace M := M.same S_x1; replace bt := bt.same S_x1; replace g_it := S_x1 _ _ g_it
      rw [cutV_to1, ← List.map_take] at g_x1
      refine fin (ys.take (at' + 1)) x1 Hx0 np_x1 g_x1 M bt (fun y hy => .inl (mt hy)) (by omega)
    · repeat (first | (with_reducible refine st_tC ?_) | (with_reducible refine st_tOp ?_) | ((with_reducible apply st_n); rfl; rfl; (first | trivial | (show _ ≤ _; omega) | (show _ < _; omega) | (show _ ∨ _; omega) | assumption | exact ⟨by assumption, by omega⟩ | exact ⟨W30.one, by omega⟩ | fail); rfl) | (with_reducible refine st_i0 rfl rfl rfl ?_) | ((with_reducible refine st_i rfl rfl ?_ rfl ?_); first | omega | exact ⟨by decide, by decide, by decide⟩ | exact .inl ⟨by decide, by decide⟩ | exact .inl ⟨by omega, by omega⟩ | exact .inr ⟨by omega, by omega⟩ | fail) | ((fail_if_success refine Exists.intro (α := Nat → Nat → L2.St → Hp → Prop) ?_ ?_); (fail_if_success refine Exists.intro (α := L2.St → Hp → Prop) ?_ ?_); (fail_if_success refine Exists.intro (α := Nat → L2.St → Hp → Prop) ?_ ?_); apply Exists.intro) | ((refine And.intro ?_ ?_); first | with_reducible rfl | with_reducible assumption | rfl | ((with_reducible apply SqL.of); assumption) | ((with_reducible apply SqT.of); assumption) | ((with_reducible apply OwnC.cl); assumption) | (with_reducible exact isI_int _) | exact within_args | (with_reducible exact upd_same) | ((with_reducible apply Mid.o); assumption) | ((with_reducible apply Mid.t); assumption) | exact .inl ⟨rfl, _, SqL.of (by assumption)⟩ | (with_reducible exact ⟨_, SqT.of (by assumption)⟩) | (with_reducible exact ⟨_, SqL.of (by assumption)⟩) | omega | exact Nat.le_of_ble_eq_true rfl | exact nat9 (by omega) | exact ⟨_, rfl⟩ | (show _ ≤ sizeLine; decide) | exact ⟨by decide, by decide, by decide⟩ | exact .inl ⟨by decide, by decide⟩ | exact .inl ⟨by omega, by omega⟩ | exact .inr ⟨by omega, by omega⟩ | assumption | fail) | ((with_reducible refine iteF' ?_ ?_); first | rfl | exact decide_eq_false (by omega) | exact in_no (by omega) (by omega) | exact in_no (by omega) (by assumption) | (simp <;> fail) | fail) | ((with_reducible refine iteT' ?_ ?_); first | rfl | exact decide_eq_true (by omega) | (simp <;> fail) | fail))
      intro x1 h_x1; have np_x1 := M.pD h_x1; have nb_x1 := M.bD h_x1; generalize hE : upd _ x1 _ = Hx0; obtain ⟨S_x1, g_x1⟩ := new_facts h_x1 hE; clear hE; replace M := M.same S_x1; replace bt := bt.same S_x1; replace g_it := S_x1 _ _ g_it
      replace g_x1 : Hx0 x1 = some (.lst (([o] : List Str).map V.str)) := g_x1
      repeat (first | (with_reducible refine st_tC ?_) | (with_reducible refine st_tOp ?_) | ((with_reducible apply st_n); rfl; rfl; (first | trivial | (show _ ≤ _; omega) | (show _ < _; omega) | (show _ ∨ _; omega) | assumption | exact ⟨by assumption, by omega⟩ | exact ⟨W30.one, by omega⟩ | fail); rfl) | (with_reducible refine st_i0 rfl rfl rfl ?_) | ((with_reducible refine st_i rfl rfl ?_ rfl ?_); first | omega | exact ⟨by decide, by decide, by decide⟩ | exact .inl ⟨by decide, by decide⟩ | exact .inl ⟨by omega, by omega⟩ | exact .inr ⟨by omega, by omega⟩ | fail) | ((fail_if_success refine Exists.intro (α := Nat → Nat → L2.St → Hp → Prop) ?_ ?_); (fail_if_success refine Exists.intro (α := L2.St → Hp → Prop) ?_ ?_); (fail_if_success refine Exists.intro (α := Nat → L2.St → Hp → Prop) ?_ ?_); apply Exists.intro) | ((refine And.intro ?_ ?_); first | with_reducible rfl | with_reducible assumption | rfl | ((with_reducible apply SqL.of); assumption) | ((with_reducible apply SqT.of); assumption) | ((with_reducible apply OwnC.cl); assumption) | (with_reducible exact isI_int _) | exact within_args | (with_reducible exact upd_same) | ((with_reducible apply Mid.o); assumption) | ((with_reducible apply Mid.t); assumption) | exact .inl ⟨rfl, _, SqL.of (by assumption)⟩ | (with_reducible exact ⟨_, SqT.of (by assumption)⟩) | (with_reducible exact ⟨_, SqL.of (by assumption)⟩) | omega | exact Nat.le_of_ble_eq_true rfl | exact nat9 (by omega) | exact ⟨_, rfl⟩ | (show _ ≤ sizeLine; decide) | exact ⟨by decide, by decide, by decide⟩ | exact .inl ⟨by decide, by decide⟩ | exact .inl ⟨by omega, by omega⟩ | exact .inr ⟨by omega, by omega⟩ | assumption | fail) | ((with_reducible refine iteF' ?_ ?_); first | rfl | exact decide_eq_false (by omega) | exact in_no (by omega) (by omega) | exact in_no (by omega) (by assumption) | (simp <;> fail) | fail) | ((with_reducible refine iteT' ?_ ?_); first | rfl | exact decide_eq_true (by omega) | (simp <;> fail) | fail))
      refine ⟨by simp only [List.length_map, List.length_append, List.length_take, List.length_drop, List.length_cons, List.length_nil]; rw [sizeLine_eq]; omega, ?_⟩
      intro x2 h_x2; have np_x2 := M.pD h_x2; have nb_x2 := M.bD h_x2; generalize hE : upd _ x2 _ = Hx1; obtain ⟨S_x2, g_x2⟩ := new_facts h_x2 hE; clear hE; replace M := M.same S_x2; replace bt := bt.same S_x2; replace g_it := S_x2 _ _ g_it; replace g_x1 := S_x2 _ _ g_x1
      rw [← List.map_append] at g_x2
      refine fin (ys ++ [o]) x2 Hx1 np_x2 g_x2 M bt (fun y hy => ?_) (by simp only [wgt_app]; omega)
      rcases List.mem_append.mp hy with z | z
      · exact .inl z
      · exact .inr (List.mem_singleton.mp z)
end
end K12
/-! `except X as n: ..` as the first of several clauses, where X is what comes. -/
namespace OB
open PySem PySem.Spec PyProof.Rows L2
def wAs1 (K : PySem.W.Frag) (c : Value) (i : Nat) (ts : Addr → Value → Option Addr → TS) (D : Ends) : WX := fun cls d σ H =>
  PySem.W.exmOne K cls c = some true ∧ ∀ a, H a = none → ts a cls d { nx := fun σ' H' => D.nx (σ'.set i none) H', rt := D.rt, bk := fun σ' H' => D.bk (σ'.set i none) H', ct := fun σ' H' => D.ct (σ'.set i none) H' } (σ.set i (some (.ref a))) H
section
variable {X : Cx} {x n : Str} {c : Value} {i : Nat} {body suite : List Stmt} {b0 : Stmt} {np pos pos' : Pos} {tb : WX → TS} {ts : Addr → Value → Option Addr → TS} {hds : List ExceptHandler}
theorem ps_try_as1 (hs : X.stack = X.env :: X.outer) (hf : X.env.frame = some X.env.locals) (hN : X.N.Nodup) (hi : X.N[i]? = some n) (hln : X.env.kindOf n = some .local) (hc : Names X x c)
    (hb : ∀ (W : WX) (pn : List (Addr × Obj)) (xe : Value → Shared → Prop), Takes (X.tr pn xe) W → PassesOwn (model X.prog X.w) X.A X.env xe → PSs (X.tr pn xe) body (tb W))
    (hsu : ∀ (a : Addr) (oe : Obj) (cls : Value) (d : Option Addr) (pn : List (Addr × Obj)), Zc cls d oe → (∃ vs, oe.data = .fields vs) → PSs (X.suite a ((a, oe) :: pn)) (b0 :: suite) (ts a cls d)) :
    PS X (.Try body (.ExceptHandler (some (.Name x np)) (some n) (b0 :: suite) pos' :: hds) [] [] pos) (fun D σ H => tb (wAs1 X.K c i ts D) D σ H) := by
  refine ⟨fun pins s σ H D I h => ?_⟩
  have okX := I.ok
  have frames : X.A.frames = some (X.env :: X.outer) := by rw [okX.frames, hs]
  refine wpAny_Try_except ?_
  have run := (hb (wAs1 X.K c i ts D) (X.pn ++ pins) (fun e s1 => wpAny (model X.prog X.w) X.A (noteFrame e X.env)
    (fun _ s2 => wpAny (model X.prog X.w) X.A (setFlight e none)
      (fun _ s3 => wpAny (model X.prog X.w) X.A (handleBy e X.env (.ExceptHandler (some (.Name x np)) (some n) (b0 :: suite) pos' :: hds)) (SP X pins D) X.xe s3) X.xe s2) X.xe s1)
    (fun u s' air => ?_) PassesOwn.looking).run [] s σ H D (I.toTry _) h
  · refine wpAny_mono run (fun f s1 end1 => ?_) (fun _ _ z => z)
    cases f with
    | next =>
      obtain ⟨σ1, H1, J1, q⟩ := end1
      exact wpAny_execs_nil ⟨σ1, H1, J1.ofTry okX, q⟩
    | ret u =>
      obtain ⟨v, σ1, H1, J1, r, q⟩ := end1
      exact ⟨v, σ1, H1, J1.ofTry okX, r, q⟩
    | brk =>
      obtain ⟨σ1, H1, J1, q⟩ := end1
      exact ⟨σ1, H1, J1.ofTry okX, q⟩
    | cont =>
      obtain ⟨σ1, H1, J1, q⟩ := end1
      exact ⟨σ1, H1, J1.ofTry okX, q⟩
  · obtain ⟨a, B, sI, pins1, σ1, H1, cls, d, rfl, J0, ground, up0, sky, na, os1, bare1, hb1, yes⟩ := air
    have J : Inv X pins σ1 H1 sI := J0.ofTry okX
    have skyX : Sky B (X.env :: X.outer) a (Zc cls d) X.env.locals s'.heap := by
      rw [← hs]
      exact sky
    show wpAny (model X.prog X.w) X.A (noteFrame (.ref a) X.env) _ _ _
    refine Sky.land Zc.steady frames hf skyX fun h3 fl3 up3 => ?_
    have J3 : Inv X pins σ1 H1 { s' with heap := h3 } := J.landed ground fl3.1 (up0.trans up3) os1 bare1
    obtain ⟨oe3, vs3, he3, hz3, hd3⟩ := fl3.there
    have off : a ∉ frs (X.env :: X.outer) := fun hm => by
      obtain ⟨_, o', e', hnf⟩ := fl3.2.2.1.mem hm
      rw [he3] at e'
      cases e'
      exact hnf _ hd3
    have nL : a ≠ X.env.locals := fun z => off (List.mem_filterMap.mpr ⟨X.env, List.mem_cons_self, by rw [hf, z]⟩)
    have nF : a ∉ X.fs := fun hm => by
      obtain ⟨e, he, q⟩ := List.mem_filterMap.mp hm
      exact off (List.mem_filterMap.mpr ⟨e, List.mem_cons_of_mem _ he, q⟩)
    have S3 := J3.suite he3 hd3 na nL nF
    refine wpAny_handleBy_cons (codeAny_handlers_test ?_) (by intro q; cases q)
    have LT : PySem.W.Looks (model X.prog X.w) h3 (typeOf (.ref a)) cls := fun A Q E s k q => wpAny_typeOf_ref (k _ _ he3) (by rw [hz3.1]; exact q)
    have LM := PySem.W.exm_one (M := model X.prog X.w) (J3.kIn) LT hb1
    have named : ∀ {Q : Value → Shared → Prop} {E : Value → Shared → Prop}, Q c { s' with heap := h3 } →
        wpAny (model X.prog X.w) (X.A.mark (some (.ref a))) (eval (.Name x np) X.env) Q E { s' with heap := h3 } := fun {Q E} q => by
      obtain ⟨hg, hdbg, hm | ⟨hm, hv, hnn⟩⟩ := hc
      · exact ld_glob (X := X.suite a ((a, oe3) :: (X.pn ++ pins))) S3 hg hm q hdbg
      · exact ld_blt (X := X.suite a ((a, oe3) :: (X.pn ++ pins))) S3 hg hm hv q hnn hdbg
    refine named (LM.here ?_)
    refine codeAny_handlers_suite_as ?_
    refine HandSPX.lands_againZ fl3 fun h4 fl4 up4 => ?_
    have J4 : Inv X pins σ1 H1 { s' with heap := h4 } := J.landed ground fl4.1 ((up0.trans up3).trans up4) os1 bare1
    obtain ⟨oe4, vs4, he4, hz4, hd4⟩ := fl4.there
    have S4 := J4.suite he4 hd4 na nL nF
    refine store_ok (X := X.suite a ((a, oe4) :: (X.pn ++ pins))) (v := .ref a) S4 hN hi (.inl hln) rfl (fun s5 S5 => ?_) (.inr hln)
    refine wpAny_mono ((hsu a oe4 cls d (X.pn ++ pins) hz4 ⟨_, hd4⟩).run [] s5 _ H1 _ S5 (yes a na)) (fun f s6 end6 => ?_) (fun _ _ z => False.elim z)
    have behind : ∀ {σ6 : L2.St} {H6 : Hp} {Q : Shared → Prop}, Inv (X.suite a ((a, oe4) :: (X.pn ++ pins))) [] σ6 H6 s6 → (∀ s7, Inv X pins (σ6.set i none) H6 s7 → Q s7) →
        wpAny (model X.prog X.w) X.A (do bindName X.env n .none; unbindBehindTheSuite X.env n pos') (fun _ s7 => Q s7) X.xe s6 := fun {σ6 H6 Q} S6 hq => gone_ok (S6.unsuite okX) hN hi hln hq
    cases f with
    | next =>
      obtain ⟨σ6, H6, S6, q6⟩ := end6
      exact behind S6 fun s7 J7 => ⟨_, _, J7, q6⟩
    | brk =>
      obtain ⟨σ6, H6, S6, q6⟩ := end6
      exact behind S6 fun s7 J7 => ⟨_, _, J7, q6⟩
    | cont =>
      obtain ⟨σ6, H6, S6, q6⟩ := end6
      exact behind S6 fun s7 J7 => ⟨_, _, J7, q6⟩
    | ret u =>
      obtain ⟨v6, σ6, H6, S6, r6, q6⟩ := end6
      exact behind S6 fun s7 J7 => ⟨_, _, _, J7, r6, q6⟩
end
end OB
namespace K12
open PySem PySem.Spec PyProof.Rows L2 OB SkE LamX
structure Kinds (K : PySem.W.Frag) (mg : Str → Option Value) (CT : Addr) : Prop where
  gT : mg "BadText" = some (.ref CT)
  xf : XfC K CT
  ex : PySem.W.exmOne K (.ref CT) (.ref CT) = some true
  n1 : PySem.W.findIn K (.ref CT) "line" = some none
  n2 : PySem.W.findIn K (.ref CT) "item" = some none
def spHeard (K : PySem.W.Frag) (C : Addr) : Sp := fun vs H Q _ => ∃ x : V, vs = [x] ∧ ((NotS K H x ∧ ∀ t H', H t = none → Same H H' → H' t = some (.tup [.int 0, .int 0]) → Q (.ref t) H') ∨ ∃ z : Str, x = .str z ∧ z.length ≤ 100000 ∧
  (∀ k : Nat, stopL (Txt.split z " ") = some k → ∀ t H', H t = none → Same H H' → H' t = some (.tup [.int 0, .int (k : Int)]) → Q (.ref t) H') ∧ (∀ b ms, LayOk b ms → z = layText b ms → ∀ y H', H y = none → Same H H' → IsLay H' C y b ms → Q (.ref y) H'))
section
variable {P : Program} {w : World} {K : PySem.W.Frag} {mg : Str → Option Value} {base : Heap}
theorem sc__law_heard : FnScope ["text", "error"] ["text"] (defScope s__law_heard) := ⟨rfl, rfl, rfl, by decide +kernel, rfl, by decide +kernel, by decide +kernel⟩
abbrev N__law_heard : List Str := ["text", "error"]
theorem ok__law_heard {f f1 C CT fI : Addr} {pR : Addr} {mc : Value} {fd fd1 : FuncData} (F : Fun K "_law_heard" "_law_heard" s__law_heard f fd) (T : Blt mg) (Z : Kinds K mg CT) (O_Layout : OwnC K mg "Layout" C fI) (RD_Layout : ClX.CRead K C mc) (SM_Layout_read : CStat K C mc "read" pR f1) (b_Layout_read : L2.Binds K fd1 ["text"] []) (G_Layout_read : FnOk P w K mg base (L2.CX P w) 7 f1 fd1 ["text"] (spLRead K C CT)) : FnOk P w K mg base CX0 8 f fd ["text"] (spHeard K C) := by
  have g_BadText := Z.gT
  refine F.ok sc__law_heard (fun vs H Q E h => ?_) (fun cdv A outer s H vs Q E hr h => ?_)
  · obtain ⟨x, rfl, _⟩ := h
    rfl
  · obtain ⟨x, rfl, h⟩ := h
    refine ⟨_, pss_one (ps_try_as1 (i := 1) rfl rfl sc__law_heard.nd rfl rfl ⟨by rfl, by decide, .inl g_BadText⟩ (fun W pn xe tk _ => pss_one (ps_ret (pe_smethS (pl := _) (pe_glob (v := .ref _) (by rfl) O_Layout.g rfl) RD_Layout SM_Layout_read G_Layout_read (hr.mono (by decide)) b_Layout_read (fun σ => passAt tk σ) (pa_cons (pv 0) pa_nil)))) (fun a oe cls d pn hz hf => pss_one (ps_ret (pe_tup (pa_cons (pe_xf Z.xf Z.n1 hz hf (pv 1)) (pa_cons (pe_xf Z.xf Z.n2 hz hf (pv 1)) pa_nil)))))), ?_⟩
    refine ⟨rfl, ?_⟩
    have told : ∀ (H1 : Hp) (it : Int) (d : Addr), H1 d = none → Same H H1 → (∀ t H', H t = none → Same H H' → H' t = some (.tup [.int 0, .int it]) → Q (.ref t) H') → wAs1 K (Value.ref CT) 1 (fun a cls d => tRet (tTup (tCons (tXf a cls d CT "line" (tVar 1)) (tCons (tXf a cls d CT "item" (tVar 1)) tNil)))) { nx := fun x H' => Q V.non H', rt := Q } (.ref CT) (some d) (L2.start ["text", "error"] [x]) (upd H1 d (.xd [(("item" : Str), .int it), (("line" : Str), .int 0)])) := fun H1 it d hd S1 k => by
      refine ⟨Z.ex, fun a ha => ?_⟩
      have S2 := S1.trans (same_new (o := .xd [(("item" : Str), .int it), (("line" : Str), .int 0)]) hd)
      have hd1 : (upd H1 d (.xd [(("item" : Str), .int it), (("line" : Str), .int 0)])) d = some (.xd [(("item" : Str), .int it), (("line" : Str), .int 0)]) := upd_same
      refine ⟨_, rfl, rfl, rfl, d, _, _, rfl, hd1, rfl, _, rfl, rfl, rfl, d, _, _, rfl, hd1, rfl, by show 2 ≤ sizeLine; decide, fun t ht => ?_⟩
      exact k t _ (S2.free ht) (S2.trans (same_new ht)) upd_same
    rcases h with ⟨hn, k⟩ | ⟨z, rfl, hz, k1, k2⟩
    · exact ⟨_, rfl, x, rfl, .inl ⟨hn, fun d hd => told H 0 d hd (.refl _) k⟩⟩
    · exact ⟨_, rfl, _, rfl, .inr ⟨z, rfl, hz, fun k hk H1 S1 d hd => told H1 k d hd S1 (k1 k hk), k2⟩⟩
end
end K12
namespace K12
open PySem PySem.Spec PyProof.Rows L2 OB SkE LamX ClX
def spLaw (K : PySem.W.Frag) : Sp := fun vs H Q _ => ∃ (a : Addr) (ns : List Int), vs = [.ref a] ∧ SqL K H a (ns.map V.int) ∧ ns.length ≤ 63 ∧ ∀ H', Q (.bl true) H'
theorem wgt_lay {b : Nat} {ms : List (Option Nat)} (ok : LayOk b ms) : wgt (ds b :: ms.map mtx) ≤ 1100 ∧ ∀ y ∈ ds b :: ms.map mtx, ItOk y := by
  have len3 : ∀ y ∈ ds b :: ms.map mtx, y.length ≤ 3 := fun y hy => by
    rcases List.mem_cons.mp hy with rfl | hy
    · exact (ds_small b (by have := ok.b8; omega)).2.2.2.1
    · obtain ⟨m, hm, rfl⟩ := List.mem_map.mp hy
      exact mtx_len fun n e => ok.small n (e ▸ hm)
  have s := sum_le ((ds b :: ms.map mtx).map (·.length)) (fun x hx => by
    obtain ⟨y, hy, rfl⟩ := List.mem_map.mp hx
    exact len3 y hy)
  have l : (ds b :: ms.map mtx).length ≤ 257 := by
    rw [List.length_cons, List.length_map, ok.len]
    have := pow8 ok.b8
    omega
  rw [List.length_map] at s
  refine ⟨by unfold wgt; omega, fun y hy => ⟨fun c hc => ?_, by have := len3 y hy; omega⟩⟩
  rcases List.mem_cons.mp hy with rfl | hy
  · exact MN.asc_ds _ c hc
  · obtain ⟨m, hm, rfl⟩ := List.mem_map.mp hy
    cases m with
    | none => exact (litA (s := "-") (by decide +kernel) (by decide +kernel)).1 c hc
    | some n => exact MN.asc_ds _ c hc
theorem lay_inj {b b' : Nat} {ms ms' : List (Option Nat)} (h1 : LayOk b ms) (h2 : LayOk b' ms') (e : layText b ms = layText b' ms') : b = b' ∧ ms = ms' := by
  have s1 := lay_split h1
  rw [e, lay_split h2] at s1
  obtain ⟨a1, a2⟩ := List.cons.inj s1
  have eb : b' = b := by
    have k1 := MN.num_ds (n := b') (by have := (ds_small b' (by have := h2.b8; omega)).2.2.2.1; omega)
    have k2 := MN.num_ds (n := b) (by have := (ds_small b (by have := h1.b8; omega)).2.2.2.1; omega)
    rw [a1, k2] at k1
    exact (Option.some.inj k1).symm
  refine ⟨eb.symm, ?_⟩
  have key : ∀ l k : List (Option Nat), (∀ n, some n ∈ l → n ≤ 63) → (∀ n, some n ∈ k → n ≤ 63) → l.map mtx = k.map mtx → l = k := by
    intro l
    induction l with
    | nil => intro k _ _ h; cases k with
      | nil => rfl
      | cons _ _ => cases h
    | cons a l ih =>
      intro k h1 h2 h
      cases k with
      | nil => cases h
      | cons c k =>
        have ha := (List.cons.inj h).1
        have hb := (List.cons.inj h).2
        have e1 := mOf_mtx (m := a) fun n e => h1 n (e ▸ List.mem_cons_self)
        have e2 := mOf_mtx (m := c) fun n e => h2 n (e ▸ List.mem_cons_self)
        rw [ha, e2] at e1
        rw [ih k (fun n hn => h1 n (List.mem_cons_of_mem _ hn)) (fun n hn => h2 n (List.mem_cons_of_mem _ hn)) hb, Option.some.inj e1]
  exact key _ _ h1.small h2.small a2.symm
theorem split_ne (z : Str) : Txt.split z " " ≠ [] := fun h => by
  have e := MN.join_split z
  rw [h] at e
  rw [← e] at h
  revert h
  decide +kernel
theorem kit_strO {K : PySem.W.Frag} {C : Addr} (h : PySem.W.subIn K (.ref C) (.type "str") = some false) : PySem.W.kitOne K (.ref C) (.type "str") = some false := by
  unfold PySem.W.kitOne
  rw [if_neg (by intro z; exact nomatch (beq_iff_eq.mp z))]
  unfold PySem.W.kitCls
  show (if PySem.W.kitMeta "str" = true then PySem.W.subIn K (.ref C) (.type "str") else none) = some false
  rw [if_pos (by decide +kernel)]
  exact h
theorem join1 (s a : Str) : Txt.join s [a] = a := by rw [TL.join_eq]; rfl
theorem join2 (s a : Str) : ∀ {l : List Str}, l ≠ [] → Txt.join s (a :: l) = a ++ s ++ Txt.join s l
  | [], h => absurd rfl h
  | b :: r, _ => by rw [TL.join_eq, TL.join_eq]; rfl
theorem wgt_join : ∀ l : List Str, (Txt.join " " l).length ≤ wgt l
  | [] => Nat.le_of_eq (show (Txt.join " " []).length = 0 by decide +kernel)
  | [a] => by
    rw [join1, wgt_cons]
    omega
  | a :: b :: r => by
    have ih := wgt_join (b :: r)
    have e3 : (" " : Str).length = 1 := by decide +kernel
    rw [join2 _ _ (List.cons_ne_nil _ _), wgt_cons, Str.length_append, Str.length_append, e3]
    omega
section
variable {P : Program} {w : World} {K : PySem.W.Frag} {mg : Str → Option Value} {base : Heap}
theorem sc_law : FnScope ["script", "mill", "bits", "means", "word", "layout", "items", "state", "text", "turn", "bent", "stop", "told", "odd"] ["script"] (defScope s_law) := ⟨rfl, rfl, rfl, by decide +kernel, rfl, by decide +kernel, by decide +kernel⟩
abbrev N_law : List Str := ["script", "mill", "bits", "means", "word", "layout", "items", "state", "text", "turn", "bent", "stop", "told", "odd"]
theorem ok_law {f f1 f2 f3 f4 f5 f6 fI fE fR pR fS C CT : Addr} {fd1 fd2 fd3 fd4 fd5 fd6 fdI fdE fdR fdS : FuncData} {mc : Value} {oc kV doc pm ct cd : Value} {od an : Option Addr} {osl : Array (Option Value)} (T : Blt mg)
    (lk : K.lookup f = some ⟨oc, od, .func (PySem.W.fnOf "law" "law" (defArgs s_law) (defBody s_law) (defScope s_law) .none kV doc pm an cd ct), osl⟩) (hcd : PySem.W.codeIn K cd "law" = true)
    (Z : Kinds K mg CT) (sstr : PySem.W.subIn K (.ref C) (.type "str") = some false) (O_Layout : OwnC K mg "Layout" C fI) (n1 : NoAttr K C "bits") (n2 : NoAttr K C "means")
    (D__law_mill : Df K mg "_law_mill" s__law_mill ["script"] f1 fd1) (G__law_mill : FnOk P w K mg base CX0 1 f1 fd1 ["script"] (spLot K)) (D__law_grind : Df K mg "_law_grind" s__law_grind ["mill", "many"] f2 fd2) (D__law_one_of : Df K mg "_law_one_of" s__law_one_of ["mill", "some"] f3 fd3) (D__law_bent : Df K mg "_law_bent" s__law_bent ["mill", "items"] f4 fd4) (G__law_bent : FnOk P w K mg base CX0 3 f4 fd4 ["mill", "items"] spBent) (D__law_stop : Df K mg "_law_stop" s__law_stop ["items"] f5 fd5) (G__law_stop : FnOk P w K mg base CX0 3 f5 fd5 ["items"] spStop)
    (D__law_heard : Df K mg "_law_heard" s__law_heard ["text"] f6 fd6) (G__law_heard : FnOk P w K mg base CX0 8 f6 fd6 ["text"] (spHeard K C))
    (F_Layout_init : Fun K "__init__" "Layout.__init__" s_Layout_init fI fdI) (b_Layout_init : L2.Binds K fdI ["self", "bits", "means"] []) (G_Layout_init : FnOk P w K mg base CX0 4 fI fdI ["self", "bits", "means"] (spLayInit C))
    (EQ_Layout : OwnEqC K C fE) (b_Layout_eq : L2.Binds K fdE ["self", "other"] []) (G_Layout_eq : FnOk P w K mg base CX0 1 fE fdE ["self", "other"] (spLayEq K C))
    (ST_Layout : OwnStrC K C fS) (b_Layout_str : L2.Binds K fdS ["self"] []) (G_Layout_str : FnOk P w K mg base CX0 1 fS fdS ["self"] (spLayStr C))
    (F_Layout_read : Fun K "read" "Layout.read" s_Layout_read fR fdR) (RD_Layout : CRead K C mc) (SM_Layout_read : CStat K C mc "read" pR fR) (GX_Layout_read : FnOk P w K mg base (L2.CX P w) 7 fR fdR ["text"] (spLRead K C CT)) :
    FnG P w K mg base CX0 10 f (PySem.W.fnOf "law" "law" (defArgs s_law) (defBody s_law) (defScope s_law) .none kV doc pm an cd ct) ["script"] (spLaw K) := by
  have G__law_grind : FnOk P w K mg base CX0 1 f2 fd2 ["mill", "many"] spDraw := ok__law_grind D__law_grind.F T
  have G__law_one_of : FnOk P w K mg base CX0 2 f3 fd3 ["mill", "some"] spOne := ok__law_one_of D__law_one_of.F T D__law_grind
  have G_Layout_read := calm_of GX_Layout_read
  have kb_Layout_read : KBinds K fdR ["text"] ["text"] (kg [0]) (kg [0]) := kbinds F_Layout_read (fun _ _ _ _ _ _ us ws hl => by
    rcases us with _ | ⟨a, us⟩
    · rcases ws with _ | ⟨x0, ws⟩ <;> first | rfl | exact absurd (show 0 = 1 from hl) (by decide)
    · exact absurd (show 0 = 1 from hl) (by decide)) kg_vals
  refine fnG_of lk hcd sc_law (fun vs H Q E h => ?_) fun A outer s H vs Q E hgd hr h => ?_
  · obtain ⟨a, ns, rfl, _⟩ := h
    rfl
  · obtain ⟨a, ns, rfl, hS, hl, k⟩ := h
    have t0 : ∃ t, PSs (cxOf CX0 P w K mg base ["script", "mill", "bits", "means", "word", "layout", "items", "state", "text", "turn", "bent", "stop", "told", "odd"] "law" (defScope s_law) f cd A outer s H E).nox (defBody s_law) t ∧ t { nx := fun _ H' => Q .non H', rt := Q } (L2.start ["script", "mill", "bits", "means", "word", "layout", "items", "state", "text", "turn", "bent", "stop", "told", "odd"] [.ref a]) H := by
      refine ⟨_, (pss_cons (ps_set (i := 1) sc_law.nd rfl (Or.inr rfl) (pe_call G__law_mill (hr.mono (by decide)) (by rfl) D__law_mill.g D__law_mill.F.kp D__law_mill.b .nil pass0 (pa_cons (pv 0) pa_nil)))
  (pss_cons (ps_set (i := 2) sc_law.nd rfl (Or.inl rfl) (pe_call G__law_one_of (hr.mono (by decide)) (by rfl) D__law_one_of.g D__law_one_of.F.kp D__law_one_of.b .nil pass0 (pa_cons (pv 1) (pa_cons (pe_lst (pa_cons pe_int (pa_cons pe_int (pa_cons pe_int (pa_cons pe_int (pa_cons pe_int (pa_cons pe_int (pa_cons pe_int (pa_cons pe_int (pa_cons pe_int (pa_cons pe_int (pa_cons pe_int (pa_cons pe_int pa_nil))))))))))))) pa_nil))))
  (pss_cons (ps_setLc (i := 3) (own := [("word", 4)]) (g := (gName 4)) (tt := tYes) rfl sc_law.nd rfl rfl (sw_true rfl rfl rfl (by decide +kernel)) (pi_range1 (by rfl) T.n_range (pa_cons (pe_op op_oneN pe_int (pv 2)) pa_nil)) (blkOk_by (N := N_law) (own := [("word", 4)]) (sc := defScope s_law) (by decide +kernel)) (fun _ _ _ _ _ => (pg_name (i := 4) sc_law.nd rfl (Or.inl rfl))) (fun _ _ _ _ _ => pts_nil) (fun _ _ _ _ _ => (pe_ifExp (pt_cmpR op_eq (pe_call G__law_grind (hr.mono (by decide)) (by rfl) D__law_grind.g D__law_grind.F.kp D__law_grind.b .nil pass0 (pa_cons (pv 1) (pa_cons pe_int pa_nil))) pe_int (nomark _)) pe_non (pe_call G__law_grind (hr.mono (by decide)) (by rfl) D__law_grind.g D__law_grind.F.kp D__law_grind.b .nil pass0 (pa_cons (pv 1) (pa_cons pe_int pa_nil))))))
  (pss_cons (ps_set (i := 5) sc_law.nd rfl (Or.inl rfl) (pe_make O_Layout.made G_Layout_init (hr.mono (by decide)) (by rfl) O_Layout.g b_Layout_init .nil pass0 (pa_cons (pv 2) (pa_cons (pv 3) pa_nil))))
  (pss_cons (ps_set (i := 6) sc_law.nd rfl (Or.inl rfl) (pe_op op_cat (pe_lst (pa_cons (pe_callTy call_str_int (by rfl) T.n_str (by decide +kernel) (pa_cons (pv 2) pa_nil)) pa_nil)) (pe_lc (own := [("state", 7)]) (g := (gName 7)) (tt := tYes) rfl sc_law.nd (pi_list (pv 3)) (blkOk_by (N := N_law) (own := [("state", 7)]) (sc := defScope s_law) (by decide +kernel)) (fun _ _ _ _ _ => (pg_name (i := 7) sc_law.nd rfl (Or.inl rfl))) (fun _ _ _ _ _ => pts_nil) (fun _ _ _ _ _ => (pe_ifExp (pt_cmpR op_isN (pv 7) pe_non (nomark _)) pe_str (pe_callTy call_str_int (by rfl) T.n_str (by decide +kernel) (pa_cons (pv 7) pa_nil)))))))
  (pss_cons (ps_set (i := 8) sc_law.nd rfl (Or.inl rfl) (pe_join pe_str (pv 6)))
  (pss_cons (ps_if (PW.pt (pw_or (pt_cmpR op_ne (pe_callTy (call_strO G_Layout_str ST_Layout b_Layout_str pass0 (hr.mono (by decide))) (by rfl) T.n_str (by decide +kernel) (pa_cons (pv 5) pa_nil)) (pv 8) (nomark _)) (pw_or (pt_cmpR (op_neO G_Layout_eq EQ_Layout b_Layout_eq pass0 (hr.mono (by decide))) (pe_call G__law_heard (hr.mono (by decide)) (by rfl) D__law_heard.g D__law_heard.F.kp D__law_heard.b .nil pass0 (pa_cons (pv 8) pa_nil)) (pv 5) (nomark _)) (pw_or1 (pt_cmpR (op_neD hr.units) (pe_fld (pe_smethK (pl := _) (pe_glob (v := .ref _) (by rfl) O_Layout.g rfl) RD_Layout SM_Layout_read G_Layout_read (hr.mono (by decide)) kb_Layout_read pass0 (pk_cons (pv 8) pk_nil)) rfl) (pe_callTy call_tuple_of (by rfl) T.n_tuple (by decide +kernel) (pa_cons (pv 3) pa_nil)) (nomark _)))))) (pss_one (ps_ret pe_bl)) pss_nil)
  (pss_cons (ps_for PassesOwn.never rfl (pi_range1 (by rfl) T.n_range (pa_cons pe_int pa_nil)) (pg_name (i := 9) sc_law.nd rfl (Or.inl rfl)) (pss_cons (ps_set (i := 10) sc_law.nd rfl (Or.inl rfl) (pe_join pe_str (pe_call G__law_bent (hr.mono (by decide)) (by rfl) D__law_bent.g D__law_bent.F.kp D__law_bent.b .nil pass0 (pa_cons (pv 1) (pa_cons (pv 6) pa_nil)))))
  (pss_cons (ps_par (i := 11) (j := 12) (by rfl) sc_law.nd rfl rfl (by decide) rfl rfl (pa_cons (pe_call G__law_stop (hr.mono (by decide)) (by rfl) D__law_stop.g D__law_stop.F.kp D__law_stop.b .nil pass0 (pa_cons (pe_split (pv 10) pe_str) pa_nil)) (pa_cons (pe_call G__law_heard (hr.mono (by decide)) (by rfl) D__law_heard.g D__law_heard.F.kp D__law_heard.b .nil pass0 (pa_cons (pv 10) pa_nil)) pa_nil)) (by rfl))
  (pss_cons (ps_if (PW.pt (pw_and (pt_cmpR op_notN (pv 11) pe_non (nomark _)) (pw_and1 (pt_cmpR (op_neD hr.units) (pv 12) (pe_tup (pa_cons pe_int (pa_cons (pv 11) pa_nil))) (nomark _))))) (pss_one (ps_ret pe_bl)) pss_nil)
  (pss_one (ps_if (PW.pt (pw_and (pt_cmpR op_isN (pv 11) pe_non (nomark _)) (pw_and1 (PW.pt (pw_or (pt_not (pt_val (pe_callB call_isi (by rfl) T.n_isinstance (by decide +kernel) (pa_cons (pv 12) (pa_cons (pe_glob (v := .ref _) (by rfl) O_Layout.g rfl) pa_nil))))) (pw_or1 (pt_cmpR op_ne (pe_callTy (call_strO G_Layout_str ST_Layout b_Layout_str pass0 (hr.mono (by decide))) (by rfl) T.n_str (by decide +kernel) (pa_cons (pv 12) pa_nil)) (pv 10) (nomark _)))))))) (pss_one (ps_ret pe_bl)) pss_nil))))))
  (pss_cons (ps_set (i := 13) sc_law.nd rfl (Or.inl rfl) (pe_call G__law_one_of (hr.mono (by decide)) (by rfl) D__law_one_of.g D__law_one_of.F.kp D__law_one_of.b .nil pass0 (pa_cons (pv 1) (pa_cons (pe_lst (pa_cons pe_non (pa_cons pe_int (pa_cons pe_bl (pa_cons (pe_lst (pa_cons pe_str (pa_cons pe_str (pa_cons pe_str pa_nil)))) (pa_cons (pe_tup (pa_cons (pv 8) pa_nil)) (pa_cons (pv 5) (pa_cons pe_dnewK pa_nil)))))))) pa_nil))))
  (pss_one (ps_ret (pe_and (pe_cmpR (op_eqD hr.units) (pe_call G__law_heard (hr.mono (by decide)) (by rfl) D__law_heard.g D__law_heard.F.kp D__law_heard.b .nil pass0 (pa_cons (pv 13) pa_nil)) (pe_tup (pa_cons pe_int (pa_cons pe_int pa_nil))) (nomark _)) (pe_and (pe_cmpR (op_eqD hr.units) (pe_call G__law_heard (hr.mono (by decide)) (by rfl) D__law_heard.g D__law_heard.F.kp D__law_heard.b .nil pass0 (pa_cons pe_str pa_nil)) (pe_tup (pa_cons pe_int (pa_cons pe_int pa_nil))) (nomark _)) (pe_and (pe_cmpR (op_eqD hr.units) (pe_call G__law_heard (hr.mono (by decide)) (by rfl) D__law_heard.g D__law_heard.F.kp D__law_heard.b .nil pass0 (pa_cons pe_str pa_nil)) (pe_tup (pa_cons pe_int (pa_cons pe_int pa_nil))) (nomark _)) (pe_one (pe_cmpR (op_eqD hr.units) (pe_call G__law_heard (hr.mono (by decide)) (by rfl) D__law_heard.g D__law_heard.F.kp D__law_heard.b .nil pass0 (pa_cons pe_str pa_nil)) (pe_tup (pa_cons pe_int (pa_cons pe_int pa_nil))) (nomark _))))))))))))))))), ?_⟩
      refine ⟨_, rfl, a, ns, rfl, hS, hl, fun p b0 H1 hp hb O S1 => ?_⟩
      have M := Mid.none O
      repeat (first | (with_reducible refine st_tC ?_) | (with_reducible refine st_tOp ?_) | ((with_reducible apply st_n); rfl; rfl; (first | trivial | (show _ ≤ _; omega) | (show _ < _; omega) | (show _ ∨ _; omega) | assumption | exact ⟨by assumption, by omega⟩ | exact ⟨W30.one, by omega⟩ | fail); rfl) | (with_reducible refine st_i0 rfl rfl rfl ?_) | ((with_reducible refine st_i rfl rfl ?_ rfl ?_); first | omega | exact ⟨by decide, by decide, by decide⟩ | exact .inl ⟨by decide, by decide⟩ | exact .inl ⟨by omega, by omega⟩ | exact .inr ⟨by omega, by omega⟩ | fail) | ((fail_if_success refine Exists.intro (α := Nat → Nat → L2.St → Hp → Prop) ?_ ?_); (fail_if_success refine Exists.intro (α := L2.St → Hp → Prop) ?_ ?_); (fail_if_success refine Exists.intro (α := Nat → L2.St → Hp → Prop) ?_ ?_); apply Exists.intro) | ((refine And.intro ?_ ?_); first | with_reducible rfl | with_reducible assumption | rfl | ((with_reducible apply SqL.of); assumption) | ((with_reducible apply SqT.of); assumption) | ((with_reducible apply OwnC.cl); assumption) | (with_reducible exact isI_int _) | exact within_args | (with_reducible exact upd_same) | ((with_reducible apply Mid.o); assumption) | ((with_reducible apply Mid.t); assumption) | exact .inl ⟨rfl, _, SqL.of (by assumption)⟩ | (with_reducible exact ⟨_, SqT.of (by assumption)⟩) | (with_reducible exact ⟨_, SqL.of (by assumption)⟩) | omega | exact Nat.le_of_ble_eq_true rfl | exact nat9 (by omega) | exact ⟨_, rfl⟩ | (show _ ≤ sizeLine; decide) | exact ⟨by decide, by decide, by decide⟩ | exact .inl ⟨by decide, by decide⟩ | exact .inl ⟨by omega, by omega⟩ | exact .inr ⟨by omega, by omega⟩ | assumption | fail) | ((with_reducible refine iteF' ?_ ?_); first | rfl | exact decide_eq_false (by omega) | exact in_no (by omega) (by omega) | exact in_no (by omega) (by assumption) | (simp <;> fail) | fail) | ((with_reducible refine iteT' ?_ ?_); first | rfl | exact decide_eq_true (by omega) | (simp <;> fail) | fail))
      intro l1 h_l1; have np_l1 := M.pD h_l1; have nb_l1 := M.bD h_l1; generalize hE : upd _ l1 _ = H2; obtain ⟨S_l1, g_l1⟩ := new_facts h_l1 hE; clear hE; replace M := M.same S_l1
      repeat (first | (with_reducible refine st_tC ?_) | (with_reducible refine st_tOp ?_) | ((with_reducible apply st_n); rfl; rfl; (first | trivial | (show _ ≤ _; omega) | (show _ < _; omega) | (show _ ∨ _; omega) | assumption | exact ⟨by assumption, by omega⟩ | exact ⟨W30.one, by omega⟩ | fail); rfl) | (with_reducible refine st_i0 rfl rfl rfl ?_) | ((with_reducible refine st_i rfl rfl ?_ rfl ?_); first | omega | exact ⟨by decide, by decide, by decide⟩ | exact .inl ⟨by decide, by decide⟩ | exact .inl ⟨by omega, by omega⟩ | exact .inr ⟨by omega, by omega⟩ | fail) | ((fail_if_success refine Exists.intro (α := Nat → Nat → L2.St → Hp → Prop) ?_ ?_); (fail_if_success refine Exists.intro (α := L2.St → Hp → Prop) ?_ ?_); (fail_if_success refine Exists.intro (α := Nat → L2.St → Hp → Prop) ?_ ?_); apply Exists.intro) | ((refine And.intro ?_ ?_); first | with_reducible rfl | with_reducible assumption | rfl | ((with_reducible apply SqL.of); assumption) | ((with_reducible apply SqT.of); assumption) | ((with_reducible apply OwnC.cl); assumption) | (with_reducible exact isI_int _) | exact within_args | (with_reducible exact upd_same) | ((with_reducible apply Mid.o); assumption) | ((with_reducible apply Mid.t); assumption) | exact .inl ⟨rfl, _, SqL.of (by assumption)⟩ | (with_reducible exact ⟨_, SqT.of (by assumption)⟩) | (with_reducible exact ⟨_, SqL.of (by assumption)⟩) | omega | exact Nat.le_of_ble_eq_true rfl | exact nat9 (by omega) | exact ⟨_, rfl⟩ | (show _ ≤ sizeLine; decide) | exact ⟨by decide, by decide, by decide⟩ | exact .inl ⟨by decide, by decide⟩ | exact .inl ⟨by omega, by omega⟩ | exact .inr ⟨by omega, by omega⟩ | assumption | fail) | ((with_reducible refine iteF' ?_ ?_); first | rfl | exact decide_eq_false (by omega) | exact in_no (by omega) (by omega) | exact in_no (by omega) (by assumption) | (simp <;> fail) | fail) | ((with_reducible refine iteT' ?_ ?_); first | rfl | exact decide_eq_true (by omega) | (simp <;> fail) | fail))
      intro j_x1 x1 H3 e_x1 O_x1 B_x1; replace M := M.draw O_x1 B_x1; clear O_x1 B_x1
      obtain ⟨b, rfl, b1, b8⟩ : ∃ b : Nat, x1 = .int (b : Int) ∧ 1 ≤ b ∧ b ≤ 8 := by
        have m := List.mem_of_getElem? e_x1
        simp only [List.mem_cons, List.not_mem_nil, or_false] at m
        rcases m with rfl | rfl | rfl | rfl | rfl | rfl | rfl | rfl | rfl | rfl | rfl | rfl
        all_goals first | exact ⟨1, rfl, by decide, by decide⟩ | exact ⟨2, rfl, by decide, by decide⟩ | exact ⟨3, rfl, by decide, by decide⟩ | exact ⟨4, rfl, by decide, by decide⟩ | exact ⟨5, rfl, by decide, by decide⟩ | exact ⟨8, rfl, by decide, by decide⟩
      clear e_x1 j_x1 g_l1 S_l1 h_l1 S1 O hp hb hS hl np_l1 nb_l1
      have p8 := pow8 b8
      have q8 : ((2 ^ b : Nat) : Int) ≤ 256 := by exact_mod_cast p8
      have q1 : (0 : Int) ≤ ((2 ^ b : Nat) : Int) := Int.natCast_nonneg _
      repeat (first | (with_reducible refine st_tC ?_) | (with_reducible refine st_tOp ?_) | ((with_reducible apply st_n); rfl; rfl; (first | trivial | (show _ ≤ _; omega) | (show _ < _; omega) | (show _ ∨ _; omega) | assumption | exact ⟨by assumption, by omega⟩ | exact ⟨W30.one, by omega⟩ | fail); rfl) | (with_reducible refine st_i0 rfl rfl rfl ?_) | ((with_reducible refine st_i rfl rfl ?_ rfl ?_); first | omega | exact ⟨by decide, by decide, by decide⟩ | exact .inl ⟨by decide, by decide⟩ | exact .inl ⟨by omega, by omega⟩ | exact .inr ⟨by omega, by omega⟩ | fail) | ((fail_if_success refine Exists.intro (α := Nat → Nat → L2.St → Hp → Prop) ?_ ?_); (fail_if_success refine Exists.intro (α := L2.St → Hp → Prop) ?_ ?_); (fail_if_success refine Exists.intro (α := Nat → L2.St → Hp → Prop) ?_ ?_); apply Exists.intro) | ((refine And.intro ?_ ?_); first | with_reducible rfl | with_reducible assumption | rfl | ((with_reducible apply SqL.of); assumption) | ((with_reducible apply SqT.of); assumption) | ((with_reducible apply OwnC.cl); assumption) | (with_reducible exact isI_int _) | exact within_args | (with_reducible exact upd_same) | ((with_reducible apply Mid.o); assumption) | ((with_reducible apply Mid.t); assumption) | exact .inl ⟨rfl, _, SqL.of (by assumption)⟩ | (with_reducible exact ⟨_, SqT.of (by assumption)⟩) | (with_reducible exact ⟨_, SqL.of (by assumption)⟩) | omega | exact Nat.le_of_ble_eq_true rfl | exact nat9 (by omega) | exact ⟨_, rfl⟩ | (show _ ≤ sizeLine; decide) | exact ⟨by decide, by decide, by decide⟩ | exact .inl ⟨by decide, by decide⟩ | exact .inl ⟨by omega, by omega⟩ | exact .inr ⟨by omega, by omega⟩ | assumption | fail) | ((with_reducible refine iteF' ?_ ?_); first | rfl | exact decide_eq_false (by omega) | exact in_no (by omega) (by omega) | exact in_no (by omega) (by assumption) | (simp <;> fail) | fail) | ((with_reducible refine iteT' ?_ ?_); first | rfl | exact decide_eq_true (by omega) | (simp <;> fail) | fail))
      intro D hD
      have np_D := M.pD hD
      have nb_D := M.bD hD
      rw [Int.toNat_natCast]
      refine lc_range (n := 2 ^ b) (fun i H' => Mid [] p b0 (1 + 2 * i) H' ∧ ∃ ms : List (Option Nat), ms.length = i ∧ (∀ t, some t ∈ ms → t ≤ 63) ∧ H' D = some (.lst (ms.map mv))) ⟨(M.same (same_new hD)).mono (by omega), [], rfl, fun t ht => (nomatch ht), upd_same⟩ ?_ ?_
      · rintro i H8 hi ⟨M, ms, len, small, g_D⟩
        refine ⟨rfl, ?_⟩
        repeat (first | (with_reducible refine st_tC ?_) | (with_reducible refine st_tOp ?_) | ((with_reducible apply st_n); rfl; rfl; (first | trivial | (show _ ≤ _; omega) | (show _ < _; omega) | (show _ ∨ _; omega) | assumption | exact ⟨by assumption, by omega⟩ | exact ⟨W30.one, by omega⟩ | fail); rfl) | (with_reducible refine st_i0 rfl rfl rfl ?_) | ((with_reducible refine st_i rfl rfl ?_ rfl ?_); first | omega | exact ⟨by decide, by decide, by decide⟩ | exact .inl ⟨by decide, by decide⟩ | exact .inl ⟨by omega, by omega⟩ | exact .inr ⟨by omega, by omega⟩ | fail) | ((fail_if_success refine Exists.intro (α := Nat → Nat → L2.St → Hp → Prop) ?_ ?_); (fail_if_success refine Exists.intro (α := L2.St → Hp → Prop) ?_ ?_); (fail_if_success refine Exists.intro (α := Nat → L2.St → Hp → Prop) ?_ ?_); apply Exists.intro) | ((refine And.intro ?_ ?_); first | with_reducible rfl | with_reducible assumption | rfl | ((with_reducible apply SqL.of); assumption) | ((with_reducible apply SqT.of); assumption) | ((with_reducible apply OwnC.cl); assumption) | (with_reducible exact isI_int _) | exact within_args | (with_reducible exact upd_same) | ((with_reducible apply Mid.o); assumption) | ((with_reducible apply Mid.t); assumption) | exact .inl ⟨rfl, _, SqL.of (by assumption)⟩ | (with_reducible exact ⟨_, SqT.of (by assumption)⟩) | (with_reducible exact ⟨_, SqL.of (by assumption)⟩) | omega | exact Nat.le_of_ble_eq_true rfl | exact nat9 (by omega) | exact ⟨_, rfl⟩ | (show _ ≤ sizeLine; decide) | exact ⟨by decide, by decide, by decide⟩ | exact .inl ⟨by decide, by decide⟩ | exact .inl ⟨by omega, by omega⟩ | exact .inr ⟨by omega, by omega⟩ | assumption | fail) | ((with_reducible refine iteF' ?_ ?_); first | rfl | exact decide_eq_false (by omega) | exact in_no (by omega) (by omega) | exact in_no (by omega) (by assumption) | (simp <;> fail) | fail) | ((with_reducible refine iteT' ?_ ?_); first | rfl | exact decide_eq_true (by omega) | (simp <;> fail) | fail))
        intro q H9 q0 q1 O_q B_q; replace M := M.draw O_q B_q; obtain ⟨q, rfl⟩ := Int.eq_ofNat_of_zero_le q0
        replace g_D := B_q _ _ g_D np_D
        repeat (first | (with_reducible refine st_tC ?_) | (with_reducible refine st_tOp ?_) | ((with_reducible apply st_n); rfl; rfl; (first | trivial | (show _ ≤ _; omega) | (show _ < _; omega) | (show _ ∨ _; omega) | assumption | exact ⟨by assumption, by omega⟩ | exact ⟨W30.one, by omega⟩ | fail); rfl) | (with_reducible refine st_i0 rfl rfl rfl ?_) | ((with_reducible refine st_i rfl rfl ?_ rfl ?_); first | omega | exact ⟨by decide, by decide, by decide⟩ | exact .inl ⟨by decide, by decide⟩ | exact .inl ⟨by omega, by omega⟩ | exact .inr ⟨by omega, by omega⟩ | fail) | ((fail_if_success refine Exists.intro (α := Nat → Nat → L2.St → Hp → Prop) ?_ ?_); (fail_if_success refine Exists.intro (α := L2.St → Hp → Prop) ?_ ?_); (fail_if_success refine Exists.intro (α := Nat → L2.St → Hp → Prop) ?_ ?_); apply Exists.intro) | ((refine And.intro ?_ ?_); first | with_reducible rfl | with_reducible assumption | rfl | ((with_reducible apply SqL.of); assumption) | ((with_reducible apply SqT.of); assumption) | ((with_reducible apply OwnC.cl); assumption) | (with_reducible exact isI_int _) | exact within_args | (with_reducible exact upd_same) | ((with_reducible apply Mid.o); assumption) | ((with_reducible apply Mid.t); assumption) | exact .inl ⟨rfl, _, SqL.of (by assumption)⟩ | (with_reducible exact ⟨_, SqT.of (by assumption)⟩) | (with_reducible exact ⟨_, SqL.of (by assumption)⟩) | omega | exact Nat.le_of_ble_eq_true rfl | exact nat9 (by omega) | exact ⟨_, rfl⟩ | (show _ ≤ sizeLine; decide) | exact ⟨by decide, by decide, by decide⟩ | exact .inl ⟨by decide, by decide⟩ | exact .inl ⟨by omega, by omega⟩ | exact .inr ⟨by omega, by omega⟩ | assumption | fail) | ((with_reducible refine iteF' ?_ ?_); first | rfl | exact decide_eq_false (by omega) | exact in_no (by omega) (by omega) | exact in_no (by omega) (by assumption) | (simp <;> fail) | fail) | ((with_reducible refine iteT' ?_ ?_); first | rfl | exact decide_eq_true (by omega) | (simp <;> fail) | fail))
        by_cases c : q = 0
        · refine iteT' (decide_eq_true (by rw [c]; rfl)) ?_
          refine ⟨_, g_D, by rw [List.length_map, sizeLine_eq]; omega, (M.put g_D np_D nb_D).mono (by omega), ms ++ [none], by rw [List.length_append, len]; rfl, fun t ht => ?_, by rw [upd_same, List.map_append]; rfl⟩
          rcases List.mem_append.mp ht with h | h
          · exact small t h
          · exact nomatch (List.mem_singleton.mp h)
        · refine iteF' (decide_eq_false fun z => c (by have := V.int.inj z; omega)) ?_
          repeat (first | (with_reducible refine st_tC ?_) | (with_reducible refine st_tOp ?_) | ((with_reducible apply st_n); rfl; rfl; (first | trivial | (show _ ≤ _; omega) | (show _ < _; omega) | (show _ ∨ _; omega) | assumption | exact ⟨by assumption, by omega⟩ | exact ⟨W30.one, by omega⟩ | fail); rfl) | (with_reducible refine st_i0 rfl rfl rfl ?_) | ((with_reducible refine st_i rfl rfl ?_ rfl ?_); first | omega | exact ⟨by decide, by decide, by decide⟩ | exact .inl ⟨by decide, by decide⟩ | exact .inl ⟨by omega, by omega⟩ | exact .inr ⟨by omega, by omega⟩ | fail) | ((fail_if_success refine Exists.intro (α := Nat → Nat → L2.St → Hp → Prop) ?_ ?_); (fail_if_success refine Exists.intro (α := L2.St → Hp → Prop) ?_ ?_); (fail_if_success refine Exists.intro (α := Nat → L2.St → Hp → Prop) ?_ ?_); apply Exists.intro) | ((refine And.intro ?_ ?_); first | with_reducible rfl | with_reducible assumption | rfl | ((with_reducible apply SqL.of); assumption) | ((with_reducible apply SqT.of); assumption) | ((with_reducible apply OwnC.cl); assumption) | (with_reducible exact isI_int _) | exact within_args | (with_reducible exact upd_same) | ((with_reducible apply Mid.o); assumption) | ((with_reducible apply Mid.t); assumption) | exact .inl ⟨rfl, _, SqL.of (by assumption)⟩ | (with_reducible exact ⟨_, SqT.of (by assumption)⟩) | (with_reducible exact ⟨_, SqL.of (by assumption)⟩) | omega | exact Nat.le_of_ble_eq_true rfl | exact nat9 (by omega) | exact ⟨_, rfl⟩ | (show _ ≤ sizeLine; decide) | exact ⟨by decide, by decide, by decide⟩ | exact .inl ⟨by decide, by decide⟩ | exact .inl ⟨by omega, by omega⟩ | exact .inr ⟨by omega, by omega⟩ | assumption | fail) | ((with_reducible refine iteF' ?_ ?_); first | rfl | exact decide_eq_false (by omega) | exact in_no (by omega) (by omega) | exact in_no (by omega) (by assumption) | (simp <;> fail) | fail) | ((with_reducible refine iteT' ?_ ?_); first | rfl | exact decide_eq_true (by omega) | (simp <;> fail) | fail))
          intro z H10 z0 z1 O_z B_z; replace M := M.draw O_z B_z; obtain ⟨z, rfl⟩ := Int.eq_ofNat_of_zero_le z0
          replace g_D := B_z _ _ g_D np_D
          refine ⟨_, g_D, by rw [List.length_map, sizeLine_eq]; omega, (M.put g_D np_D nb_D).mono (by omega), ms ++ [some z], by rw [List.length_append, len]; rfl, fun t ht => ?_, by rw [upd_same, List.map_append]; rfl⟩
          rcases List.mem_append.mp ht with h | h
          · exact small t h
          · have := Option.some.inj (List.mem_singleton.mp h)
            omega
      · rintro H8 ⟨M, ms, len, small, g_D⟩
        have lok : LayOk b ms := ⟨b1, b8, len, small⟩
        clear hD
        repeat (first | (with_reducible refine st_tC ?_) | (with_reducible refine st_tOp ?_) | ((with_reducible apply st_n); rfl; rfl; (first | trivial | (show _ ≤ _; omega) | (show _ < _; omega) | (show _ ∨ _; omega) | assumption | exact ⟨by assumption, by omega⟩ | exact ⟨W30.one, by omega⟩ | fail); rfl) | (with_reducible refine st_i0 rfl rfl rfl ?_) | ((with_reducible refine st_i rfl rfl ?_ rfl ?_); first | omega | exact ⟨by decide, by decide, by decide⟩ | exact .inl ⟨by decide, by decide⟩ | exact .inl ⟨by omega, by omega⟩ | exact .inr ⟨by omega, by omega⟩ | fail) | ((fail_if_success refine Exists.intro (α := Nat → Nat → L2.St → Hp → Prop) ?_ ?_); (fail_if_success refine Exists.intro (α := L2.St → Hp → Prop) ?_ ?_); (fail_if_success refine Exists.intro (α := Nat → L2.St → Hp → Prop) ?_ ?_); apply Exists.intro) | ((refine And.intro ?_ ?_); first | with_reducible rfl | with_reducible assumption | rfl | ((with_reducible apply SqL.of); assumption) | ((with_reducible apply SqT.of); assumption) | ((with_reducible apply OwnC.cl); assumption) | (with_reducible exact isI_int _) | exact within_args | (with_reducible exact upd_same) | ((with_reducible apply Mid.o); assumption) | ((with_reducible apply Mid.t); assumption) | exact .inl ⟨rfl, _, SqL.of (by assumption)⟩ | (with_reducible exact ⟨_, SqT.of (by assumption)⟩) | (with_reducible exact ⟨_, SqL.of (by assumption)⟩) | omega | exact Nat.le_of_ble_eq_true rfl | exact nat9 (by omega) | exact ⟨_, rfl⟩ | (show _ ≤ sizeLine; decide) | exact ⟨by decide, by decide, by decide⟩ | exact .inl ⟨by decide, by decide⟩ | exact .inl ⟨by omega, by omega⟩ | exact .inr ⟨by omega, by omega⟩ | assumption | fail) | ((with_reducible refine iteF' ?_ ?_); first | rfl | exact decide_eq_false (by omega) | exact in_no (by omega) (by omega) | exact in_no (by omega) (by assumption) | (simp <;> fail) | fail) | ((with_reducible refine iteT' ?_ ?_); first | rfl | exact decide_eq_true (by omega) | (simp <;> fail) | fail))
        intro x dx nx ndx nex
        refine make_lay lok (.inl g_D) nx ndx fun H9 S9 hl => ?_
        replace M := M.same S9
        replace g_D := S9 _ _ g_D
        clear S9 nx ndx nex
        repeat (first | (with_reducible refine st_tC ?_) | (with_reducible refine st_tOp ?_) | ((with_reducible apply st_n); rfl; rfl; (first | trivial | (show _ ≤ _; omega) | (show _ < _; omega) | (show _ ∨ _; omega) | assumption | exact ⟨by assumption, by omega⟩ | exact ⟨W30.one, by omega⟩ | fail); rfl) | (with_reducible refine st_i0 rfl rfl rfl ?_) | ((with_reducible refine st_i rfl rfl ?_ rfl ?_); first | omega | exact ⟨by decide, by decide, by decide⟩ | exact .inl ⟨by decide, by decide⟩ | exact .inl ⟨by omega, by omega⟩ | exact .inr ⟨by omega, by omega⟩ | fail) | ((fail_if_success refine Exists.intro (α := Nat → Nat → L2.St → Hp → Prop) ?_ ?_); (fail_if_success refine Exists.intro (α := L2.St → Hp → Prop) ?_ ?_); (fail_if_success refine Exists.intro (α := Nat → L2.St → Hp → Prop) ?_ ?_); apply Exists.intro) | ((refine And.intro ?_ ?_); first | with_reducible rfl | with_reducible assumption | rfl | ((with_reducible apply SqL.of); assumption) | ((with_reducible apply SqT.of); assumption) | ((with_reducible apply OwnC.cl); assumption) | (with_reducible exact isI_int _) | exact within_args | (with_reducible exact upd_same) | ((with_reducible apply Mid.o); assumption) | ((with_reducible apply Mid.t); assumption) | exact .inl ⟨rfl, _, SqL.of (by assumption)⟩ | (with_reducible exact ⟨_, SqT.of (by assumption)⟩) | (with_reducible exact ⟨_, SqL.of (by assumption)⟩) | omega | exact Nat.le_of_ble_eq_true rfl | exact nat9 (by omega) | exact ⟨_, rfl⟩ | (show _ ≤ sizeLine; decide) | exact ⟨by decide, by decide, by decide⟩ | exact .inl ⟨by decide, by decide⟩ | exact .inl ⟨by omega, by omega⟩ | exact .inr ⟨by omega, by omega⟩ | assumption | fail) | ((with_reducible refine iteF' ?_ ?_); first | rfl | exact decide_eq_false (by omega) | exact in_no (by omega) (by omega) | exact in_no (by omega) (by assumption) | (simp <;> fail) | fail) | ((with_reducible refine iteT' ?_ ?_); first | rfl | exact decide_eq_true (by omega) | (simp <;> fail) | fail))
        refine ⟨log_small (by omega), ?_⟩
        repeat (first | (with_reducible refine st_tC ?_) | (with_reducible refine st_tOp ?_) | ((with_reducible apply st_n); rfl; rfl; (first | trivial | (show _ ≤ _; omega) | (show _ < _; omega) | (show _ ∨ _; omega) | assumption | exact ⟨by assumption, by omega⟩ | exact ⟨W30.one, by omega⟩ | fail); rfl) | (with_reducible refine st_i0 rfl rfl rfl ?_) | ((with_reducible refine st_i rfl rfl ?_ rfl ?_); first | omega | exact ⟨by decide, by decide, by decide⟩ | exact .inl ⟨by decide, by decide⟩ | exact .inl ⟨by omega, by omega⟩ | exact .inr ⟨by omega, by omega⟩ | fail) | ((fail_if_success refine Exists.intro (α := Nat → Nat → L2.St → Hp → Prop) ?_ ?_); (fail_if_success refine Exists.intro (α := L2.St → Hp → Prop) ?_ ?_); (fail_if_success refine Exists.intro (α := Nat → L2.St → Hp → Prop) ?_ ?_); apply Exists.intro) | ((refine And.intro ?_ ?_); first | with_reducible rfl | with_reducible assumption | rfl | ((with_reducible apply SqL.of); assumption) | ((with_reducible apply SqT.of); assumption) | ((with_reducible apply OwnC.cl); assumption) | (with_reducible exact isI_int _) | exact within_args | (with_reducible exact upd_same) | ((with_reducible apply Mid.o); assumption) | ((with_reducible apply Mid.t); assumption) | exact .inl ⟨rfl, _, SqL.of (by assumption)⟩ | (with_reducible exact ⟨_, SqT.of (by assumption)⟩) | (with_reducible exact ⟨_, SqL.of (by assumption)⟩) | omega | exact Nat.le_of_ble_eq_true rfl | exact nat9 (by omega) | exact ⟨_, rfl⟩ | (show _ ≤ sizeLine; decide) | exact ⟨by decide, by decide, by decide⟩ | exact .inl ⟨by decide, by decide⟩ | exact .inl ⟨by omega, by omega⟩ | exact .inr ⟨by omega, by omega⟩ | assumption | fail) | ((with_reducible refine iteF' ?_ ?_); first | rfl | exact decide_eq_false (by omega) | exact in_no (by omega) (by omega) | exact in_no (by omega) (by assumption) | (simp <;> fail) | fail) | ((with_reducible refine iteT' ?_ ?_); first | rfl | exact decide_eq_true (by omega) | (simp <;> fail) | fail))
        intro l2 h_l2; have np_l2 := M.pD h_l2; have nb_l2 := M.bD h_l2; generalize hE : upd _ l2 _ = H10; obtain ⟨S_l2, g_l2⟩ := new_facts h_l2 hE; clear hE; replace M := M.same S_l2; replace hl := hl.same S_l2; replace g_D := S_l2 _ _ g_D
        replace g_l2 : H10 l2 = some (.lst [.str (ds b)]) := g_l2
        repeat (first | (with_reducible refine st_tC ?_) | (with_reducible refine st_tOp ?_) | ((with_reducible apply st_n); rfl; rfl; (first | trivial | (show _ ≤ _; omega) | (show _ < _; omega) | (show _ ∨ _; omega) | assumption | exact ⟨by assumption, by omega⟩ | exact ⟨W30.one, by omega⟩ | fail); rfl) | (with_reducible refine st_i0 rfl rfl rfl ?_) | ((with_reducible refine st_i rfl rfl ?_ rfl ?_); first | omega | exact ⟨by decide, by decide, by decide⟩ | exact .inl ⟨by decide, by decide⟩ | exact .inl ⟨by omega, by omega⟩ | exact .inr ⟨by omega, by omega⟩ | fail) | ((fail_if_success refine Exists.intro (α := Nat → Nat → L2.St → Hp → Prop) ?_ ?_); (fail_if_success refine Exists.intro (α := L2.St → Hp → Prop) ?_ ?_); (fail_if_success refine Exists.intro (α := Nat → L2.St → Hp → Prop) ?_ ?_); apply Exists.intro) | ((refine And.intro ?_ ?_); first | with_reducible rfl | with_reducible assumption | rfl | ((with_reducible apply SqL.of); assumption) | ((with_reducible apply SqT.of); assumption) | ((with_reducible apply OwnC.cl); assumption) | (with_reducible exact isI_int _) | exact within_args | (with_reducible exact upd_same) | ((with_reducible apply Mid.o); assumption) | ((with_reducible apply Mid.t); assumption) | exact .inl ⟨rfl, _, SqL.of (by assumption)⟩ | (with_reducible exact ⟨_, SqT.of (by assumption)⟩) | (with_reducible exact ⟨_, SqL.of (by assumption)⟩) | omega | exact Nat.le_of_ble_eq_true rfl | exact nat9 (by omega) | exact ⟨_, rfl⟩ | (show _ ≤ sizeLine; decide) | exact ⟨by decide, by decide, by decide⟩ | exact .inl ⟨by decide, by decide⟩ | exact .inl ⟨by omega, by omega⟩ | exact .inr ⟨by omega, by omega⟩ | assumption | fail) | ((with_reducible refine iteF' ?_ ?_); first | rfl | exact decide_eq_false (by omega) | exact in_no (by omega) (by omega) | exact in_no (by omega) (by assumption) | (simp <;> fail) | fail) | ((with_reducible refine iteT' ?_ ?_); first | rfl | exact decide_eq_true (by omega) | (simp <;> fail) | fail))
        intro EL hE
        have nlE : l2 ≠ EL := ne_of_none g_l2 hE
        have nDE : D ≠ EL := ne_of_none g_D hE
        refine lc_list (K := K) (a := D) (xs := ms.map mv) (fun i H' => Same H10 H' ∧ H' EL = some (.lst (((ms.take i).map mtx).map V.str))) ⟨same_new hE, upd_same⟩ (fun i H' _ h => SqL.of (h.1 _ _ g_D)) ?_ ?_
        · rintro i y H' hy ⟨S2, hD2⟩
          obtain ⟨m, hm, rfl⟩ : ∃ m, ms[i]? = some m ∧ y = mv m := by
            rw [List.getElem?_map] at hy
            cases e : ms[i]? with
            | none => rw [e] at hy; cases hy
            | some m => rw [e] at hy; exact ⟨m, rfl, (Option.some.inj hy).symm⟩
          have hi := (List.getElem?_eq_some_iff.mp hm).1
          have size : (((ms.take i).map mtx).map V.str).length < sizeLine := by
            rw [List.length_map, List.length_map, List.length_take, sizeLine_eq]
            omega
          have fin : ∃ acc, H' EL = some (.lst acc) ∧ acc.length < sizeLine ∧ Same H10 (upd H' EL (.lst (acc ++ [.str (mtx m)]))) ∧ (upd H' EL (.lst (acc ++ [.str (mtx m)]))) EL = some (.lst (((ms.take (i + 1)).map mtx).map V.str)) := by
            refine ⟨_, hD2, size, fun a o e => ?_, ?_⟩
            · rw [upd_ne (ne_of_none e hE)]
              exact S2 a o e
            · rw [upd_same, List.take_add_one, hm]
              simp
          refine ⟨rfl, _, rfl, rfl, _, rfl, ?_⟩
          cases m with
          | none => exact iteT fin
          | some n =>
            have := small n (List.mem_of_getElem? hm)
            exact iteF ⟨_, rfl, _, rfl, log_small (by omega), fin⟩
        · rintro H11 ⟨S2, g_E⟩
          rw [List.length_map, List.take_length] at g_E
          have np_E := M.pD hE
          have nb_E := M.bD hE
          replace M := M.same S2
          replace hl := hl.same S2
          replace g_D := S2 _ _ g_D
          replace g_l2 := S2 _ _ g_l2
          clear S2 hE nlE nDE S_l2 h_l2
          repeat (first | (with_reducible refine st_tC ?_) | (with_reducible refine st_tOp ?_) | ((with_reducible apply st_n); rfl; rfl; (first | trivial | (show _ ≤ _; omega) | (show _ < _; omega) | (show _ ∨ _; omega) | assumption | exact ⟨by assumption, by omega⟩ | exact ⟨W30.one, by omega⟩ | fail); rfl) | (with_reducible refine st_i0 rfl rfl rfl ?_) | ((with_reducible refine st_i rfl rfl ?_ rfl ?_); first | omega | exact ⟨by decide, by decide, by decide⟩ | exact .inl ⟨by decide, by decide⟩ | exact .inl ⟨by omega, by omega⟩ | exact .inr ⟨by omega, by omega⟩ | fail) | ((fail_if_success refine Exists.intro (α := Nat → Nat → L2.St → Hp → Prop) ?_ ?_); (fail_if_success refine Exists.intro (α := L2.St → Hp → Prop) ?_ ?_); (fail_if_success refine Exists.intro (α := Nat → L2.St → Hp → Prop) ?_ ?_); apply Exists.intro) | ((refine And.intro ?_ ?_); first | with_reducible rfl | with_reducible assumption | rfl | ((with_reducible apply SqL.of); assumption) | ((with_reducible apply SqT.of); assumption) | ((with_reducible apply OwnC.cl); assumption) | (with_reducible exact isI_int _) | exact within_args | (with_reducible exact upd_same) | ((with_reducible apply Mid.o); assumption) | ((with_reducible apply Mid.t); assumption) | exact .inl ⟨rfl, _, SqL.of (by assumption)⟩ | (with_reducible exact ⟨_, SqT.of (by assumption)⟩) | (with_reducible exact ⟨_, SqL.of (by assumption)⟩) | omega | exact Nat.le_of_ble_eq_true rfl | exact nat9 (by omega) | exact ⟨_, rfl⟩ | (show _ ≤ sizeLine; decide) | exact ⟨by decide, by decide, by decide⟩ | exact .inl ⟨by decide, by decide⟩ | exact .inl ⟨by omega, by omega⟩ | exact .inr ⟨by omega, by omega⟩ | assumption | fail) | ((with_reducible refine iteF' ?_ ?_); first | rfl | exact decide_eq_false (by omega) | exact in_no (by omega) (by omega) | exact in_no (by omega) (by assumption) | (simp <;> fail) | fail) | ((with_reducible refine iteT' ?_ ?_); first | rfl | exact decide_eq_true (by omega) | (simp <;> fail) | fail))
          refine ⟨by simp only [List.length_map, List.length_append, List.length_cons, List.length_nil]; rw [sizeLine_eq]; omega, ?_⟩
          intro it h_it; have np_it := M.pD h_it; have nb_it := M.bD h_it; generalize hE : upd _ it _ = H12; obtain ⟨S_it, g_it⟩ := new_facts h_it hE; clear hE; replace M := M.same S_it; replace hl := hl.same S_it; replace g_D := S_it _ _ g_D
          replace g_it : H12 it = some (.lst ((ds b :: ms.map mtx).map V.str)) := g_it
          have room := lay_room lok
          refine ⟨⟨_, rfl⟩, ?_⟩
          refine ⟨_, rfl, ?_⟩
          refine ⟨_, it, ds b :: ms.map mtx, rfl, rfl, .inl (SqL.of g_it), by omega, ?_⟩
          have ws := wgt_lay lok
          have zl : (layText b ms).length ≤ 100000 := Nat.le_trans (wgt_join _) (by omega)
          have zsp := lay_split lok
          have zst : stopL (Txt.split (layText b ms) " ") = none := by rw [zsp]; exact stop_lay lok
          obtain ⟨z, ez⟩ : ∃ z, layText b ms = z := ⟨_, rfl⟩
          rw [show Txt.join " " (ds b :: ms.map mtx) = z from ez]
          rw [ez] at zl zsp zst
          have hz : LayOk b ms ∧ z = layText b ms := ⟨lok, ez.symm⟩
          obtain ⟨dx0, fs0, tt0, hx0, ex1, ex2, g_tt⟩ := id hl
          repeat (first | (refine ⟨x, dx0, fs0, rfl, hx0, ?_⟩) | (refine ⟨x, b, ms, rfl, hl, lok, ?_⟩) | (with_reducible refine st_tC ?_) | (with_reducible refine st_tOp ?_) | ((with_reducible apply st_n); rfl; rfl; (first | trivial | (show _ ≤ _; omega) | (show _ < _; omega) | (show _ ∨ _; omega) | assumption | exact ⟨by assumption, by omega⟩ | exact ⟨W30.one, by omega⟩ | fail); rfl) | (with_reducible refine st_i0 rfl rfl rfl ?_) | ((with_reducible refine st_i rfl rfl ?_ rfl ?_); first | omega | exact ⟨by decide, by decide, by decide⟩ | exact .inl ⟨by decide, by decide⟩ | exact .inl ⟨by omega, by omega⟩ | exact .inr ⟨by omega, by omega⟩ | fail) | ((fail_if_success refine Exists.intro (α := Nat → Nat → L2.St → Hp → Prop) ?_ ?_); (fail_if_success refine Exists.intro (α := L2.St → Hp → Prop) ?_ ?_); (fail_if_success refine Exists.intro (α := Nat → L2.St → Hp → Prop) ?_ ?_); apply Exists.intro) | ((refine And.intro ?_ ?_); first | with_reducible rfl | with_reducible assumption | rfl | ((with_reducible apply SqL.of); assumption) | ((with_reducible apply SqT.of); assumption) | ((with_reducible apply OwnC.cl); assumption) | (with_reducible exact isI_int _) | exact within_args | (with_reducible exact upd_same) | ((with_reducible apply Mid.o); assumption) | ((with_reducible apply Mid.t); assumption) | exact .inl ⟨rfl, _, SqL.of (by assumption)⟩ | (with_reducible exact ⟨_, SqT.of (by assumption)⟩) | (with_reducible exact ⟨_, SqL.of (by assumption)⟩) | omega | exact Nat.le_of_ble_eq_true rfl | exact nat9 (by omega) | exact ⟨_, rfl⟩ | (show _ ≤ sizeLine; decide) | exact ⟨by decide, by decide, by decide⟩ | exact .inl ⟨by decide, by decide⟩ | exact .inl ⟨by omega, by omega⟩ | exact .inr ⟨by omega, by omega⟩ | assumption | fail) | ((with_reducible refine iteF' ?_ ?_); first | rfl | exact decide_eq_false (by omega) | exact in_no (by omega) (by omega) | exact in_no (by omega) (by assumption) | (simp <;> fail) | fail) | ((with_reducible refine iteT' ?_ ?_); first | rfl | exact decide_eq_true (by omega) | (simp <;> fail) | fail))
          intro H13 S13
          rw [ez]
          replace M := M.same S13
          replace hl := hl.same S13
          replace g_D := S13 _ _ g_D
          replace g_it := S13 _ _ g_it
          clear hx0 ex1 ex2 g_tt S13
          repeat (first | (with_reducible refine st_tC ?_) | (with_reducible refine st_tOp ?_) | ((with_reducible apply st_n); rfl; rfl; (first | trivial | (show _ ≤ _; omega) | (show _ < _; omega) | (show _ ∨ _; omega) | assumption | exact ⟨by assumption, by omega⟩ | exact ⟨W30.one, by omega⟩ | fail); rfl) | (with_reducible refine st_i0 rfl rfl rfl ?_) | ((with_reducible refine st_i rfl rfl ?_ rfl ?_); first | omega | exact ⟨by decide, by decide, by decide⟩ | exact .inl ⟨by decide, by decide⟩ | exact .inl ⟨by omega, by omega⟩ | exact .inr ⟨by omega, by omega⟩ | fail) | ((fail_if_success refine Exists.intro (α := Nat → Nat → L2.St → Hp → Prop) ?_ ?_); (fail_if_success refine Exists.intro (α := L2.St → Hp → Prop) ?_ ?_); (fail_if_success refine Exists.intro (α := Nat → L2.St → Hp → Prop) ?_ ?_); apply Exists.intro) | ((refine And.intro ?_ ?_); first | with_reducible rfl | with_reducible assumption | rfl | ((with_reducible apply SqL.of); assumption) | ((with_reducible apply SqT.of); assumption) | ((with_reducible apply OwnC.cl); assumption) | (with_reducible exact isI_int _) | exact within_args | (with_reducible exact upd_same) | ((with_reducible apply Mid.o); assumption) | ((with_reducible apply Mid.t); assumption) | exact .inl ⟨rfl, _, SqL.of (by assumption)⟩ | (with_reducible exact ⟨_, SqT.of (by assumption)⟩) | (with_reducible exact ⟨_, SqL.of (by assumption)⟩) | omega | exact Nat.le_of_ble_eq_true rfl | exact nat9 (by omega) | exact ⟨_, rfl⟩ | (show _ ≤ sizeLine; decide) | exact ⟨by decide, by decide, by decide⟩ | exact .inl ⟨by decide, by decide⟩ | exact .inl ⟨by omega, by omega⟩ | exact .inr ⟨by omega, by omega⟩ | assumption | fail) | ((with_reducible refine iteF' ?_ ?_); first | rfl | exact decide_eq_false (by omega) | exact in_no (by omega) (by omega) | exact in_no (by omega) (by assumption) | (simp <;> fail) | fail) | ((with_reducible refine iteT' ?_ ?_); first | rfl | exact decide_eq_true (by omega) | (simp <;> fail) | fail))
          refine .inr ⟨z, rfl, zl, (fun k' e' => by rw [zst] at e'; cases e'), fun b' ms' ok' e' y H14 ny S14 hy => ?_⟩
          replace hy : IsLay H14 C y b ms := by
            obtain ⟨eb, em⟩ := lay_inj ok' lok (e'.symm.trans ez.symm)
            rw [eb, em] at hy
            exact hy
          replace M := M.same S14
          replace hl := hl.same S14
          replace g_D := S14 _ _ g_D
          replace g_it := S14 _ _ g_it
          clear S14 ny e' ok'
          repeat (first | (refine ne_lay hy hl ?_) | (with_reducible refine st_tC ?_) | (with_reducible refine st_tOp ?_) | ((with_reducible apply st_n); rfl; rfl; (first | trivial | (show _ ≤ _; omega) | (show _ < _; omega) | (show _ ∨ _; omega) | assumption | exact ⟨by assumption, by omega⟩ | exact ⟨W30.one, by omega⟩ | fail); rfl) | (with_reducible refine st_i0 rfl rfl rfl ?_) | ((with_reducible refine st_i rfl rfl ?_ rfl ?_); first | omega | exact ⟨by decide, by decide, by decide⟩ | exact .inl ⟨by decide, by decide⟩ | exact .inl ⟨by omega, by omega⟩ | exact .inr ⟨by omega, by omega⟩ | fail) | ((fail_if_success refine Exists.intro (α := Nat → Nat → L2.St → Hp → Prop) ?_ ?_); (fail_if_success refine Exists.intro (α := L2.St → Hp → Prop) ?_ ?_); (fail_if_success refine Exists.intro (α := Nat → L2.St → Hp → Prop) ?_ ?_); apply Exists.intro) | ((refine And.intro ?_ ?_); first | with_reducible rfl | with_reducible assumption | rfl | ((with_reducible apply SqL.of); assumption) | ((with_reducible apply SqT.of); assumption) | ((with_reducible apply OwnC.cl); assumption) | (with_reducible exact isI_int _) | exact within_args | (with_reducible exact upd_same) | ((with_reducible apply Mid.o); assumption) | ((with_reducible apply Mid.t); assumption) | exact .inl ⟨rfl, _, SqL.of (by assumption)⟩ | (with_reducible exact ⟨_, SqT.of (by assumption)⟩) | (with_reducible exact ⟨_, SqL.of (by assumption)⟩) | omega | exact Nat.le_of_ble_eq_true rfl | exact nat9 (by omega) | exact ⟨_, rfl⟩ | (show _ ≤ sizeLine; decide) | exact ⟨by decide, by decide, by decide⟩ | exact .inl ⟨by decide, by decide⟩ | exact .inl ⟨by omega, by omega⟩ | exact .inr ⟨by omega, by omega⟩ | assumption | fail) | ((with_reducible refine iteF' ?_ ?_); first | rfl | exact decide_eq_false (by omega) | exact in_no (by omega) (by omega) | exact in_no (by omega) (by assumption) | (simp <;> fail) | fail) | ((with_reducible refine iteT' ?_ ?_); first | rfl | exact decide_eq_true (by omega) | (simp <;> fail) | fail))
          clear hy
          refine .inr ⟨z, rfl, zl, (fun k' e' => by rw [zst] at e'; cases e'), fun b' ms' ok' e' y2 H15 ny S14 hy => ?_⟩
          replace hy : IsLay H15 C y2 b ms := by
            obtain ⟨eb, em⟩ := lay_inj ok' lok (e'.symm.trans ez.symm)
            rw [eb, em] at hy
            exact hy
          replace M := M.same S14
          replace hl := hl.same S14
          replace g_D := S14 _ _ g_D
          replace g_it := S14 _ _ g_it
          clear S14 ny e' ok'
          obtain ⟨dy, fy, ty, y0, y1, y2', y3⟩ := id hy
          have cl := O_Layout.cl
          repeat (first | (refine ⟨D, _, rfl, .inl ⟨SqL.of g_D, ?_⟩⟩) | (with_reducible refine st_tC ?_) | (with_reducible refine st_tOp ?_) | ((with_reducible apply st_n); rfl; rfl; (first | trivial | (show _ ≤ _; omega) | (show _ < _; omega) | (show _ ∨ _; omega) | assumption | exact ⟨by assumption, by omega⟩ | exact ⟨W30.one, by omega⟩ | fail); rfl) | (with_reducible refine st_i0 rfl rfl rfl ?_) | ((with_reducible refine st_i rfl rfl ?_ rfl ?_); first | omega | exact ⟨by decide, by decide, by decide⟩ | exact .inl ⟨by decide, by decide⟩ | exact .inl ⟨by omega, by omega⟩ | exact .inr ⟨by omega, by omega⟩ | fail) | ((fail_if_success refine Exists.intro (α := Nat → Nat → L2.St → Hp → Prop) ?_ ?_); (fail_if_success refine Exists.intro (α := L2.St → Hp → Prop) ?_ ?_); (fail_if_success refine Exists.intro (α := Nat → L2.St → Hp → Prop) ?_ ?_); apply Exists.intro) | ((refine And.intro ?_ ?_); first | with_reducible rfl | with_reducible assumption | rfl | ((with_reducible apply SqL.of); assumption) | ((with_reducible apply SqT.of); assumption) | ((with_reducible apply OwnC.cl); assumption) | (with_reducible exact isI_int _) | exact within_args | (with_reducible exact upd_same) | ((with_reducible apply Mid.o); assumption) | ((with_reducible apply Mid.t); assumption) | exact .inl ⟨rfl, _, SqL.of (by assumption)⟩ | (with_reducible exact ⟨_, SqT.of (by assumption)⟩) | (with_reducible exact ⟨_, SqL.of (by assumption)⟩) | omega | exact Nat.le_of_ble_eq_true rfl | exact nat9 (by omega) | exact ⟨_, rfl⟩ | (show _ ≤ sizeLine; decide) | exact ⟨by decide, by decide, by decide⟩ | exact .inl ⟨by decide, by decide⟩ | exact .inl ⟨by omega, by omega⟩ | exact .inr ⟨by omega, by omega⟩ | assumption | fail) | ((with_reducible refine iteF' ?_ ?_); first | rfl | exact decide_eq_false (by omega) | exact in_no (by omega) (by omega) | exact in_no (by omega) (by assumption) | (simp <;> fail) | fail) | ((with_reducible refine iteT' ?_ ?_); first | rfl | exact decide_eq_true (by omega) | (simp <;> fail) | fail))
          intro tm h_tm; have np_tm := M.pD h_tm; have nb_tm := M.bD h_tm; generalize hE : upd _ tm _ = H16; obtain ⟨S_tm, g_tm⟩ := new_facts h_tm hE; clear hE; replace M := M.same S_tm; replace hl := hl.same S_tm; replace g_D := S_tm _ _ g_D; replace g_it := S_tm _ _ g_it
          replace y3 := S_tm _ _ y3
          refine ⟨.tuple (ms.map md), .tuple (ms.map md), Dp.tup (SqT.of y3) (dp_means _), Dp.tup (SqT.of g_tm) (dp_means _), shaped_means _, shaped_means _, _, rfl, ?_⟩
          rw [eqv_tup, decide_eq_true rfl]
          refine iteF' rfl ?_
          clear y3 g_tm S_tm h_tm np_tm nb_tm y0 y1 y2' hy dy fy cl
          replace M := M.mono (k := 600) (by omega)
          have spne : ∀ t : Str, Txt.split t " " ≠ [] := fun t => split_ne t
          have l1 : ((" " : Str).length == 0) = false := by decide +kernel
          repeat (first | (with_reducible refine st_tC ?_) | (with_reducible refine st_tOp ?_) | ((with_reducible apply st_n); rfl; rfl; (first | trivial | (show _ ≤ _; omega) | (show _ < _; omega) | (show _ ∨ _; omega) | assumption | exact ⟨by assumption, by omega⟩ | exact ⟨W30.one, by omega⟩ | fail); rfl) | (with_reducible refine st_i0 rfl rfl rfl ?_) | ((with_reducible refine st_i rfl rfl ?_ rfl ?_); first | omega | exact ⟨by decide, by decide, by decide⟩ | exact .inl ⟨by decide, by decide⟩ | exact .inl ⟨by omega, by omega⟩ | exact .inr ⟨by omega, by omega⟩ | fail) | ((fail_if_success refine Exists.intro (α := Nat → Nat → L2.St → Hp → Prop) ?_ ?_); (fail_if_success refine Exists.intro (α := L2.St → Hp → Prop) ?_ ?_); (fail_if_success refine Exists.intro (α := Nat → L2.St → Hp → Prop) ?_ ?_); apply Exists.intro) | ((refine And.intro ?_ ?_); first | with_reducible rfl | with_reducible assumption | rfl | ((with_reducible apply SqL.of); assumption) | ((with_reducible apply SqT.of); assumption) | ((with_reducible apply OwnC.cl); assumption) | (with_reducible exact isI_int _) | exact within_args | (with_reducible exact upd_same) | ((with_reducible apply Mid.o); assumption) | ((with_reducible apply Mid.t); assumption) | exact .inl ⟨rfl, _, SqL.of (by assumption)⟩ | (with_reducible exact ⟨_, SqT.of (by assumption)⟩) | (with_reducible exact ⟨_, SqL.of (by assumption)⟩) | omega | exact Nat.le_of_ble_eq_true rfl | exact nat9 (by omega) | exact ⟨_, rfl⟩ | (show _ ≤ sizeLine; decide) | exact ⟨by decide, by decide, by decide⟩ | exact .inl ⟨by decide, by decide⟩ | exact .inl ⟨by omega, by omega⟩ | exact .inr ⟨by omega, by omega⟩ | assumption | fail) | ((with_reducible refine iteF' ?_ ?_); first | rfl | exact decide_eq_false (by omega) | exact in_no (by omega) (by omega) | exact in_no (by omega) (by assumption) | (simp <;> fail) | fail) | ((with_reducible refine iteT' ?_ ?_); first | rfl | exact decide_eq_true (by omega) | (simp <;> fail) | fail))
          refine for_range (n := 8) (fun i σ H' => Mid [] p b0 (600 + 10 * i) H' ∧ IsLay H' C x b ms ∧ H' it = some (.lst ((ds b :: ms.map mtx).map V.str)) ∧ Hid (∃ u9 u10 u11 u12 : Option V, σ = [some (.ref a), some (.ref p), some (.int (b : Int)), some (.ref D), none, some (.ref x), some (.ref it), none, some (.str z), u9, u10, u11, u12, none])) ⟨M, hl, g_it, ⟨none, none, none, none, rfl⟩⟩ ?_ ?_
          · rintro i σ H17 hi ⟨M, hl, g_it, ⟨u9, u10, u11, u12, rfl⟩⟩
            repeat (first | (refine ⟨p, b0, _, it, ds b :: ms.map mtx, rfl, M.o, by omega, np_it, g_it, List.cons_ne_nil _ _, ws.1, ws.2, ?_⟩) | (with_reducible refine st_tC ?_) | (with_reducible refine st_tOp ?_) | ((with_reducible apply st_n); rfl; rfl; (first | trivial | (show _ ≤ _; omega) | (show _ < _; omega) | (show _ ∨ _; omega) | assumption | exact ⟨by assumption, by omega⟩ | exact ⟨W30.one, by omega⟩ | fail); rfl) | (with_reducible refine st_i0 rfl rfl rfl ?_) | ((with_reducible refine st_i rfl rfl ?_ rfl ?_); first | omega | exact ⟨by decide, by decide, by decide⟩ | exact .inl ⟨by decide, by decide⟩ | exact .inl ⟨by omega, by omega⟩ | exact .inr ⟨by omega, by omega⟩ | fail) | ((fail_if_success refine Exists.intro (α := Nat → Nat → L2.St → Hp → Prop) ?_ ?_); (fail_if_success refine Exists.intro (α := L2.St → Hp → Prop) ?_ ?_); (fail_if_success refine Exists.intro (α := Nat → L2.St → Hp → Prop) ?_ ?_); apply Exists.intro) | ((refine And.intro ?_ ?_); first | with_reducible rfl | with_reducible assumption | rfl | ((with_reducible apply SqL.of); assumption) | ((with_reducible apply SqT.of); assumption) | ((with_reducible apply OwnC.cl); assumption) | (with_reducible exact isI_int _) | exact within_args | (with_reducible exact upd_same) | ((with_reducible apply Mid.o); assumption) | ((with_reducible apply Mid.t); assumption) | exact .inl ⟨rfl, _, SqL.of (by assumption)⟩ | (with_reducible exact ⟨_, SqT.of (by assumption)⟩) | (with_reducible exact ⟨_, SqL.of (by assumption)⟩) | omega | exact Nat.le_of_ble_eq_true rfl | exact nat9 (by omega) | exact ⟨_, rfl⟩ | (show _ ≤ sizeLine; decide) | exact ⟨by decide, by decide, by decide⟩ | exact .inl ⟨by decide, by decide⟩ | exact .inl ⟨by omega, by omega⟩ | exact .inr ⟨by omega, by omega⟩ | assumption | fail) | ((with_reducible refine iteF' ?_ ?_); first | rfl | exact decide_eq_false (by omega) | exact in_no (by omega) (by omega) | exact in_no (by omega) (by assumption) | (simp <;> fail) | fail) | ((with_reducible refine iteT' ?_ ?_); first | rfl | exact decide_eq_true (by omega) | (simp <;> fail) | fail))
            intro bl zs H18 npl g_bl O B oz wz
            obtain ⟨_, _, _, hpu, _⟩ := id M.o
            replace M := M.draw O B
            replace hl := hl.but B hpu
            clear hpu
            replace g_it := B _ _ g_it np_it
            clear O B
            have wz2 : (zs.map (·.length)).sum + zs.length * (" " : Str).length ≤ 16777216 := by
              have e1 : (" " : Str).length = 1 := by decide +kernel
              have e2 : wgt zs = (zs.map fun y => y.length).sum + zs.length := rfl
              rw [e1]
              omega
            have yl : (Txt.join " " zs).length ≤ 100000 := Nat.le_trans (wgt_join _) (by omega)
            have yA : MN.asc (Txt.join " " zs) := MN.asc_join zs fun y hy => (oz y hy).1
            refine ⟨_, bl, zs, rfl, rfl, .inl (SqL.of g_bl), wz2, ?_⟩
            generalize Txt.join " " zs = yt at *
            clear g_bl oz wz wz2 npl
            have z2 : yt.length + 2 ≤ sizeLine := by rw [sizeLine_eq]; omega
            repeat (first | (with_reducible refine st_tC ?_) | (with_reducible refine st_tOp ?_) | ((with_reducible apply st_n); rfl; rfl; (first | trivial | (show _ ≤ _; omega) | (show _ < _; omega) | (show _ ∨ _; omega) | assumption | exact ⟨by assumption, by omega⟩ | exact ⟨W30.one, by omega⟩ | fail); rfl) | (with_reducible refine st_i0 rfl rfl rfl ?_) | ((with_reducible refine st_i rfl rfl ?_ rfl ?_); first | omega | exact ⟨by decide, by decide, by decide⟩ | exact .inl ⟨by decide, by decide⟩ | exact .inl ⟨by omega, by omega⟩ | exact .inr ⟨by omega, by omega⟩ | fail) | ((fail_if_success refine Exists.intro (α := Nat → Nat → L2.St → Hp → Prop) ?_ ?_); (fail_if_success refine Exists.intro (α := L2.St → Hp → Prop) ?_ ?_); (fail_if_success refine Exists.intro (α := Nat → L2.St → Hp → Prop) ?_ ?_); apply Exists.intro) | ((refine And.intro ?_ ?_); first | with_reducible rfl | with_reducible assumption | rfl | ((with_reducible apply SqL.of); assumption) | ((with_reducible apply SqT.of); assumption) | ((with_reducible apply OwnC.cl); assumption) | (with_reducible exact isI_int _) | exact within_args | (with_reducible exact upd_same) | ((with_reducible apply Mid.o); assumption) | ((with_reducible apply Mid.t); assumption) | exact .inl ⟨rfl, _, SqL.of (by assumption)⟩ | (with_reducible exact ⟨_, SqT.of (by assumption)⟩) | (with_reducible exact ⟨_, SqL.of (by assumption)⟩) | omega | exact Nat.le_of_ble_eq_true rfl | exact nat9 (by omega) | exact ⟨_, rfl⟩ | (show _ ≤ sizeLine; decide) | exact ⟨by decide, by decide, by decide⟩ | exact .inl ⟨by decide, by decide⟩ | exact .inl ⟨by omega, by omega⟩ | exact .inr ⟨by omega, by omega⟩ | assumption | fail) | ((with_reducible refine iteF' ?_ ?_); first | rfl | exact decide_eq_false (by omega) | exact in_no (by omega) (by omega) | exact in_no (by omega) (by assumption) | (simp <;> fail) | fail) | ((with_reducible refine iteT' ?_ ?_); first | rfl | exact decide_eq_true (by omega) | (simp <;> fail) | fail))
            intro sp h_sp; have np_sp := M.pD h_sp; have nb_sp := M.bD h_sp; generalize hE : upd _ sp _ = H19; obtain ⟨S_sp, g_sp⟩ := new_facts h_sp hE; clear hE; replace M := M.same S_sp; replace hl := hl.same S_sp; replace g_it := S_sp _ _ g_it
            have hL : ∀ y ∈ Txt.split yt " ", y.length ≤ 100000 ∧ MN.asc y := fun y hy => ⟨by have := MN.split_short hy; omega, MN.split_asc yA hy⟩
            have sne := spne yt
            repeat (first | (refine ⟨sp, _, rfl, g_sp, sne, hL, ?_⟩) | (with_reducible refine st_tC ?_) | (with_reducible refine st_tOp ?_) | ((with_reducible apply st_n); rfl; rfl; (first | trivial | (show _ ≤ _; omega) | (show _ < _; omega) | (show _ ∨ _; omega) | assumption | exact ⟨by assumption, by omega⟩ | exact ⟨W30.one, by omega⟩ | fail); rfl) | (with_reducible refine st_i0 rfl rfl rfl ?_) | ((with_reducible refine st_i rfl rfl ?_ rfl ?_); first | omega | exact ⟨by decide, by decide, by decide⟩ | exact .inl ⟨by decide, by decide⟩ | exact .inl ⟨by omega, by omega⟩ | exact .inr ⟨by omega, by omega⟩ | fail) | ((fail_if_success refine Exists.intro (α := Nat → Nat → L2.St → Hp → Prop) ?_ ?_); (fail_if_success refine Exists.intro (α := L2.St → Hp → Prop) ?_ ?_); (fail_if_success refine Exists.intro (α := Nat → L2.St → Hp → Prop) ?_ ?_); apply Exists.intro) | ((refine And.intro ?_ ?_); first | with_reducible rfl | with_reducible assumption | rfl | ((with_reducible apply SqL.of); assumption) | ((with_reducible apply SqT.of); assumption) | ((with_reducible apply OwnC.cl); assumption) | (with_reducible exact isI_int _) | exact within_args | (with_reducible exact upd_same) | ((with_reducible apply Mid.o); assumption) | ((with_reducible apply Mid.t); assumption) | exact .inl ⟨rfl, _, SqL.of (by assumption)⟩ | (with_reducible exact ⟨_, SqT.of (by assumption)⟩) | (with_reducible exact ⟨_, SqL.of (by assumption)⟩) | omega | exact Nat.le_of_ble_eq_true rfl | exact nat9 (by omega) | exact ⟨_, rfl⟩ | (show _ ≤ sizeLine; decide) | exact ⟨by decide, by decide, by decide⟩ | exact .inl ⟨by decide, by decide⟩ | exact .inl ⟨by omega, by omega⟩ | exact .inr ⟨by omega, by omega⟩ | assumption | fail) | ((with_reducible refine iteF' ?_ ?_); first | rfl | exact decide_eq_false (by omega) | exact in_no (by omega) (by omega) | exact in_no (by omega) (by assumption) | (simp <;> fail) | fail) | ((with_reducible refine iteT' ?_ ?_); first | rfl | exact decide_eq_true (by omega) | (simp <;> fail) | fail))
            intro H20 S20
            replace M := M.same S20; replace hl := hl.same S20
            replace g_it := S20 _ _ g_it
            clear S20 g_sp S_sp h_sp np_sp nb_sp hL sne
            cases e : stopL (Txt.split yt " ") with
            | none =>
              rw [show oN none = V.non from rfl]
              repeat (first | (with_reducible refine st_tC ?_) | (with_reducible refine st_tOp ?_) | ((with_reducible apply st_n); rfl; rfl; (first | trivial | (show _ ≤ _; omega) | (show _ < _; omega) | (show _ ∨ _; omega) | assumption | exact ⟨by assumption, by omega⟩ | exact ⟨W30.one, by omega⟩ | fail); rfl) | (with_reducible refine st_i0 rfl rfl rfl ?_) | ((with_reducible refine st_i rfl rfl ?_ rfl ?_); first | omega | exact ⟨by decide, by decide, by decide⟩ | exact .inl ⟨by decide, by decide⟩ | exact .inl ⟨by omega, by omega⟩ | exact .inr ⟨by omega, by omega⟩ | fail) | ((fail_if_success refine Exists.intro (α := Nat → Nat → L2.St → Hp → Prop) ?_ ?_); (fail_if_success refine Exists.intro (α := L2.St → Hp → Prop) ?_ ?_); (fail_if_success refine Exists.intro (α := Nat → L2.St → Hp → Prop) ?_ ?_); apply Exists.intro) | ((refine And.intro ?_ ?_); first | with_reducible rfl | with_reducible assumption | rfl | ((with_reducible apply SqL.of); assumption) | ((with_reducible apply SqT.of); assumption) | ((with_reducible apply OwnC.cl); assumption) | (with_reducible exact isI_int _) | exact within_args | (with_reducible exact upd_same) | ((with_reducible apply Mid.o); assumption) | ((with_reducible apply Mid.t); assumption) | exact .inl ⟨rfl, _, SqL.of (by assumption)⟩ | (with_reducible exact ⟨_, SqT.of (by assumption)⟩) | (with_reducible exact ⟨_, SqL.of (by assumption)⟩) | omega | exact Nat.le_of_ble_eq_true rfl | exact nat9 (by omega) | exact ⟨_, rfl⟩ | (show _ ≤ sizeLine; decide) | exact ⟨by decide, by decide, by decide⟩ | exact .inl ⟨by decide, by decide⟩ | exact .inl ⟨by omega, by omega⟩ | exact .inr ⟨by omega, by omega⟩ | assumption | fail) | ((with_reducible refine iteF' ?_ ?_); first | rfl | exact decide_eq_false (by omega) | exact in_no (by omega) (by omega) | exact in_no (by omega) (by assumption) | (simp <;> fail) | fail) | ((with_reducible refine iteT' ?_ ?_); first | rfl | exact decide_eq_true (by omega) | (simp <;> fail) | fail))
              refine .inr ⟨yt, rfl, yl, (fun k' e' => by rw [e] at e'; cases e'), fun b3 ms3 ok3 e3 y H21 ny S21 hy => ?_⟩
              replace M := M.same S21; replace hl := hl.same S21
              replace g_it := S21 _ _ g_it
              obtain ⟨dy, fy, ty, y0, y1, y2, y3⟩ := id hy
              clear S21 ny
              repeat (first | (refine ⟨.ref y, .ref C, .ref C, .ref C, true, rfl, .own C, O_Layout.ty y0, O_Layout.self, ?_⟩) | (refine ⟨y, dy, fy, rfl, y0, ?_⟩) | (refine ⟨y, b3, ms3, rfl, hy, ok3, ?_⟩) | (with_reducible refine st_tC ?_) | (with_reducible refine st_tOp ?_) | ((with_reducible apply st_n); rfl; rfl; (first | trivial | (show _ ≤ _; omega) | (show _ < _; omega) | (show _ ∨ _; omega) | assumption | exact ⟨by assumption, by omega⟩ | exact ⟨W30.one, by omega⟩ | fail); rfl) | (with_reducible refine st_i0 rfl rfl rfl ?_) | ((with_reducible refine st_i rfl rfl ?_ rfl ?_); first | omega | exact ⟨by decide, by decide, by decide⟩ | exact .inl ⟨by decide, by decide⟩ | exact .inl ⟨by omega, by omega⟩ | exact .inr ⟨by omega, by omega⟩ | fail) | ((fail_if_success refine Exists.intro (α := Nat → Nat → L2.St → Hp → Prop) ?_ ?_); (fail_if_success refine Exists.intro (α := L2.St → Hp → Prop) ?_ ?_); (fail_if_success refine Exists.intro (α := Nat → L2.St → Hp → Prop) ?_ ?_); apply Exists.intro) | ((refine And.intro ?_ ?_); first | with_reducible rfl | with_reducible assumption | rfl | ((with_reducible apply SqL.of); assumption) | ((with_reducible apply SqT.of); assumption) | ((with_reducible apply OwnC.cl); assumption) | (with_reducible exact isI_int _) | exact within_args | (with_reducible exact upd_same) | ((with_reducible apply Mid.o); assumption) | ((with_reducible apply Mid.t); assumption) | exact .inl ⟨rfl, _, SqL.of (by assumption)⟩ | (with_reducible exact ⟨_, SqT.of (by assumption)⟩) | (with_reducible exact ⟨_, SqL.of (by assumption)⟩) | omega | exact Nat.le_of_ble_eq_true rfl | exact nat9 (by omega) | exact ⟨_, rfl⟩ | (show _ ≤ sizeLine; decide) | exact ⟨by decide, by decide, by decide⟩ | exact .inl ⟨by decide, by decide⟩ | exact .inl ⟨by omega, by omega⟩ | exact .inr ⟨by omega, by omega⟩ | assumption | fail) | ((with_reducible refine iteF' ?_ ?_); first | rfl | exact decide_eq_false (by omega) | exact in_no (by omega) (by omega) | exact in_no (by omega) (by assumption) | (simp <;> fail) | fail) | ((with_reducible refine iteT' ?_ ?_); first | rfl | exact decide_eq_true (by omega) | (simp <;> fail) | fail))
              intro H22 S22
              rw [← e3]
              replace M := M.same S22; replace hl := hl.same S22
              replace g_it := S22 _ _ g_it
              repeat (first | (with_reducible refine st_tC ?_) | (with_reducible refine st_tOp ?_) | ((with_reducible apply st_n); rfl; rfl; (first | trivial | (show _ ≤ _; omega) | (show _ < _; omega) | (show _ ∨ _; omega) | assumption | exact ⟨by assumption, by omega⟩ | exact ⟨W30.one, by omega⟩ | fail); rfl) | (with_reducible refine st_i0 rfl rfl rfl ?_) | ((with_reducible refine st_i rfl rfl ?_ rfl ?_); first | omega | exact ⟨by decide, by decide, by decide⟩ | exact .inl ⟨by decide, by decide⟩ | exact .inl ⟨by omega, by omega⟩ | exact .inr ⟨by omega, by omega⟩ | fail) | ((fail_if_success refine Exists.intro (α := Nat → Nat → L2.St → Hp → Prop) ?_ ?_); (fail_if_success refine Exists.intro (α := L2.St → Hp → Prop) ?_ ?_); (fail_if_success refine Exists.intro (α := Nat → L2.St → Hp → Prop) ?_ ?_); apply Exists.intro) | ((refine And.intro ?_ ?_); first | with_reducible rfl | with_reducible assumption | rfl | ((with_reducible apply SqL.of); assumption) | ((with_reducible apply SqT.of); assumption) | ((with_reducible apply OwnC.cl); assumption) | (with_reducible exact isI_int _) | exact within_args | (with_reducible exact upd_same) | ((with_reducible apply Mid.o); assumption) | ((with_reducible apply Mid.t); assumption) | exact .inl ⟨rfl, _, SqL.of (by assumption)⟩ | (with_reducible exact ⟨_, SqT.of (by assumption)⟩) | (with_reducible exact ⟨_, SqL.of (by assumption)⟩) | omega | exact Nat.le_of_ble_eq_true rfl | exact nat9 (by omega) | exact ⟨_, rfl⟩ | (show _ ≤ sizeLine; decide) | exact ⟨by decide, by decide, by decide⟩ | exact .inl ⟨by decide, by decide⟩ | exact .inl ⟨by omega, by omega⟩ | exact .inr ⟨by omega, by omega⟩ | assumption | fail) | ((with_reducible refine iteF' ?_ ?_); first | rfl | exact decide_eq_false (by omega) | exact in_no (by omega) (by omega) | exact in_no (by omega) (by assumption) | (simp <;> fail) | fail) | ((with_reducible refine iteT' ?_ ?_); first | rfl | exact decide_eq_true (by omega) | (simp <;> fail) | fail))
              exact ⟨M.mono (by omega), hl, g_it, ⟨_, _, _, _, rfl⟩⟩
            | some kk =>
              rw [show oN (some kk) = V.int (kk : Int) from rfl]
              repeat (first | (with_reducible refine st_tC ?_) | (with_reducible refine st_tOp ?_) | ((with_reducible apply st_n); rfl; rfl; (first | trivial | (show _ ≤ _; omega) | (show _ < _; omega) | (show _ ∨ _; omega) | assumption | exact ⟨by assumption, by omega⟩ | exact ⟨W30.one, by omega⟩ | fail); rfl) | (with_reducible refine st_i0 rfl rfl rfl ?_) | ((with_reducible refine st_i rfl rfl ?_ rfl ?_); first | omega | exact ⟨by decide, by decide, by decide⟩ | exact .inl ⟨by decide, by decide⟩ | exact .inl ⟨by omega, by omega⟩ | exact .inr ⟨by omega, by omega⟩ | fail) | ((fail_if_success refine Exists.intro (α := Nat → Nat → L2.St → Hp → Prop) ?_ ?_); (fail_if_success refine Exists.intro (α := L2.St → Hp → Prop) ?_ ?_); (fail_if_success refine Exists.intro (α := Nat → L2.St → Hp → Prop) ?_ ?_); apply Exists.intro) | ((refine And.intro ?_ ?_); first | with_reducible rfl | with_reducible assumption | rfl | ((with_reducible apply SqL.of); assumption) | ((with_reducible apply SqT.of); assumption) | ((with_reducible apply OwnC.cl); assumption) | (with_reducible exact isI_int _) | exact within_args | (with_reducible exact upd_same) | ((with_reducible apply Mid.o); assumption) | ((with_reducible apply Mid.t); assumption) | exact .inl ⟨rfl, _, SqL.of (by assumption)⟩ | (with_reducible exact ⟨_, SqT.of (by assumption)⟩) | (with_reducible exact ⟨_, SqL.of (by assumption)⟩) | omega | exact Nat.le_of_ble_eq_true rfl | exact nat9 (by omega) | exact ⟨_, rfl⟩ | (show _ ≤ sizeLine; decide) | exact ⟨by decide, by decide, by decide⟩ | exact .inl ⟨by decide, by decide⟩ | exact .inl ⟨by omega, by omega⟩ | exact .inr ⟨by omega, by omega⟩ | assumption | fail) | ((with_reducible refine iteF' ?_ ?_); first | rfl | exact decide_eq_false (by omega) | exact in_no (by omega) (by omega) | exact in_no (by omega) (by assumption) | (simp <;> fail) | fail) | ((with_reducible refine iteT' ?_ ?_); first | rfl | exact decide_eq_true (by omega) | (simp <;> fail) | fail))
              refine .inr ⟨yt, rfl, yl, (fun k' e' t H21 nt S21 g_t => ?_), fun b3 ms3 ok3 e3 => ?_⟩
              rotate_left
              · rw [e3, lay_split ok3, stop_lay ok3] at e
                cases e
              rw [e] at e'
              cases e'
              replace M := M.same S21; replace hl := hl.same S21
              replace g_it := S21 _ _ g_it
              clear S21 nt
              repeat (first | (with_reducible refine st_tC ?_) | (with_reducible refine st_tOp ?_) | ((with_reducible apply st_n); rfl; rfl; (first | trivial | (show _ ≤ _; omega) | (show _ < _; omega) | (show _ ∨ _; omega) | assumption | exact ⟨by assumption, by omega⟩ | exact ⟨W30.one, by omega⟩ | fail); rfl) | (with_reducible refine st_i0 rfl rfl rfl ?_) | ((with_reducible refine st_i rfl rfl ?_ rfl ?_); first | omega | exact ⟨by decide, by decide, by decide⟩ | exact .inl ⟨by decide, by decide⟩ | exact .inl ⟨by omega, by omega⟩ | exact .inr ⟨by omega, by omega⟩ | fail) | ((fail_if_success refine Exists.intro (α := Nat → Nat → L2.St → Hp → Prop) ?_ ?_); (fail_if_success refine Exists.intro (α := L2.St → Hp → Prop) ?_ ?_); (fail_if_success refine Exists.intro (α := Nat → L2.St → Hp → Prop) ?_ ?_); apply Exists.intro) | ((refine And.intro ?_ ?_); first | with_reducible rfl | with_reducible assumption | rfl | ((with_reducible apply SqL.of); assumption) | ((with_reducible apply SqT.of); assumption) | ((with_reducible apply OwnC.cl); assumption) | (with_reducible exact isI_int _) | exact within_args | (with_reducible exact upd_same) | ((with_reducible apply Mid.o); assumption) | ((with_reducible apply Mid.t); assumption) | exact .inl ⟨rfl, _, SqL.of (by assumption)⟩ | (with_reducible exact ⟨_, SqT.of (by assumption)⟩) | (with_reducible exact ⟨_, SqL.of (by assumption)⟩) | omega | exact Nat.le_of_ble_eq_true rfl | exact nat9 (by omega) | exact ⟨_, rfl⟩ | (show _ ≤ sizeLine; decide) | exact ⟨by decide, by decide, by decide⟩ | exact .inl ⟨by decide, by decide⟩ | exact .inl ⟨by omega, by omega⟩ | exact .inr ⟨by omega, by omega⟩ | assumption | fail) | ((with_reducible refine iteF' ?_ ?_); first | rfl | exact decide_eq_false (by omega) | exact in_no (by omega) (by omega) | exact in_no (by omega) (by assumption) | (simp <;> fail) | fail) | ((with_reducible refine iteT' ?_ ?_); first | rfl | exact decide_eq_true (by omega) | (simp <;> fail) | fail))
              intro tq h_tq; have np_tq := M.pD h_tq; have nb_tq := M.bD h_tq; generalize hE : upd _ tq _ = H22; obtain ⟨S_tq, g_tq⟩ := new_facts h_tq hE; clear hE; replace M := M.same S_tq; replace hl := hl.same S_tq; replace g_it := S_tq _ _ g_it
              replace g_t := S_tq _ _ g_t
              have sh : SeqAt.shaped (.tuple [.int 0, .int (kk : Int)]) = true := by
                rw [show SeqAt.shaped (.tuple [.int 0, .int (kk : Int)]) = SeqAt.shaped (.tuple [.int 0, .int 0]) from rfl]
                decide +kernel
              refine ⟨.tuple [.int 0, .int (kk : Int)], .tuple [.int 0, .int (kk : Int)], Dp.tup (SqT.of g_t) (.cons (.int _) (.cons (.int _) .nil)), Dp.tup (SqT.of g_tq) (.cons (.int _) (.cons (.int _) .nil)), sh, sh, _, rfl, ?_⟩
              rw [SeqAt.eqv_refl _ (SeqAt.canLay_of_shaped sh)]
              refine iteF' rfl ?_
              repeat (first | (with_reducible refine st_tC ?_) | (with_reducible refine st_tOp ?_) | ((with_reducible apply st_n); rfl; rfl; (first | trivial | (show _ ≤ _; omega) | (show _ < _; omega) | (show _ ∨ _; omega) | assumption | exact ⟨by assumption, by omega⟩ | exact ⟨W30.one, by omega⟩ | fail); rfl) | (with_reducible refine st_i0 rfl rfl rfl ?_) | ((with_reducible refine st_i rfl rfl ?_ rfl ?_); first | omega | exact ⟨by decide, by decide, by decide⟩ | exact .inl ⟨by decide, by decide⟩ | exact .inl ⟨by omega, by omega⟩ | exact .inr ⟨by omega, by omega⟩ | fail) | ((fail_if_success refine Exists.intro (α := Nat → Nat → L2.St → Hp → Prop) ?_ ?_); (fail_if_success refine Exists.intro (α := L2.St → Hp → Prop) ?_ ?_); (fail_if_success refine Exists.intro (α := Nat → L2.St → Hp → Prop) ?_ ?_); apply Exists.intro) | ((refine And.intro ?_ ?_); first | with_reducible rfl | with_reducible assumption | rfl | ((with_reducible apply SqL.of); assumption) | ((with_reducible apply SqT.of); assumption) | ((with_reducible apply OwnC.cl); assumption) | (with_reducible exact isI_int _) | exact within_args | (with_reducible exact upd_same) | ((with_reducible apply Mid.o); assumption) | ((with_reducible apply Mid.t); assumption) | exact .inl ⟨rfl, _, SqL.of (by assumption)⟩ | (with_reducible exact ⟨_, SqT.of (by assumption)⟩) | (with_reducible exact ⟨_, SqL.of (by assumption)⟩) | omega | exact Nat.le_of_ble_eq_true rfl | exact nat9 (by omega) | exact ⟨_, rfl⟩ | (show _ ≤ sizeLine; decide) | exact ⟨by decide, by decide, by decide⟩ | exact .inl ⟨by decide, by decide⟩ | exact .inl ⟨by omega, by omega⟩ | exact .inr ⟨by omega, by omega⟩ | assumption | fail) | ((with_reducible refine iteF' ?_ ?_); first | rfl | exact decide_eq_false (by omega) | exact in_no (by omega) (by omega) | exact in_no (by omega) (by assumption) | (simp <;> fail) | fail) | ((with_reducible refine iteT' ?_ ?_); first | rfl | exact decide_eq_true (by omega) | (simp <;> fail) | fail))
              exact ⟨M.mono (by omega), hl, g_it, ⟨_, _, _, _, rfl⟩⟩
          · rintro σ H17 ⟨M, hl, g_it, ⟨u9, u10, u11, u12, rfl⟩⟩
            clear g_it g_D ws zl zsp zst hz ez
            repeat (first | (with_reducible refine st_tC ?_) | (with_reducible refine st_tOp ?_) | ((with_reducible apply st_n); rfl; rfl; (first | trivial | (show _ ≤ _; omega) | (show _ < _; omega) | (show _ ∨ _; omega) | assumption | exact ⟨by assumption, by omega⟩ | exact ⟨W30.one, by omega⟩ | fail); rfl) | (with_reducible refine st_i0 rfl rfl rfl ?_) | ((with_reducible refine st_i rfl rfl ?_ rfl ?_); first | omega | exact ⟨by decide, by decide, by decide⟩ | exact .inl ⟨by decide, by decide⟩ | exact .inl ⟨by omega, by omega⟩ | exact .inr ⟨by omega, by omega⟩ | fail) | ((fail_if_success refine Exists.intro (α := Nat → Nat → L2.St → Hp → Prop) ?_ ?_); (fail_if_success refine Exists.intro (α := L2.St → Hp → Prop) ?_ ?_); (fail_if_success refine Exists.intro (α := Nat → L2.St → Hp → Prop) ?_ ?_); apply Exists.intro) | ((refine And.intro ?_ ?_); first | with_reducible rfl | with_reducible assumption | rfl | ((with_reducible apply SqL.of); assumption) | ((with_reducible apply SqT.of); assumption) | ((with_reducible apply OwnC.cl); assumption) | (with_reducible exact isI_int _) | exact within_args | (with_reducible exact upd_same) | ((with_reducible apply Mid.o); assumption) | ((with_reducible apply Mid.t); assumption) | exact .inl ⟨rfl, _, SqL.of (by assumption)⟩ | (with_reducible exact ⟨_, SqT.of (by assumption)⟩) | (with_reducible exact ⟨_, SqL.of (by assumption)⟩) | omega | exact Nat.le_of_ble_eq_true rfl | exact nat9 (by omega) | exact ⟨_, rfl⟩ | (show _ ≤ sizeLine; decide) | exact ⟨by decide, by decide, by decide⟩ | exact .inl ⟨by decide, by decide⟩ | exact .inl ⟨by omega, by omega⟩ | exact .inr ⟨by omega, by omega⟩ | assumption | fail) | ((with_reducible refine iteF' ?_ ?_); first | rfl | exact decide_eq_false (by omega) | exact in_no (by omega) (by omega) | exact in_no (by omega) (by assumption) | (simp <;> fail) | fail) | ((with_reducible refine iteT' ?_ ?_); first | rfl | exact decide_eq_true (by omega) | (simp <;> fail) | fail))
            intro o1 h_o1; have np_o1 := M.pD h_o1; have nb_o1 := M.bD h_o1; generalize hE : upd _ o1 _ = H18; obtain ⟨S_o1, g_o1⟩ := new_facts h_o1 hE; clear hE; replace M := M.same S_o1; replace hl := hl.same S_o1
            repeat (first | (with_reducible refine st_tC ?_) | (with_reducible refine st_tOp ?_) | ((with_reducible apply st_n); rfl; rfl; (first | trivial | (show _ ≤ _; omega) | (show _ < _; omega) | (show _ ∨ _; omega) | assumption | exact ⟨by assumption, by omega⟩ | exact ⟨W30.one, by omega⟩ | fail); rfl) | (with_reducible refine st_i0 rfl rfl rfl ?_) | ((with_reducible refine st_i rfl rfl ?_ rfl ?_); first | omega | exact ⟨by decide, by decide, by decide⟩ | exact .inl ⟨by decide, by decide⟩ | exact .inl ⟨by omega, by omega⟩ | exact .inr ⟨by omega, by omega⟩ | fail) | ((fail_if_success refine Exists.intro (α := Nat → Nat → L2.St → Hp → Prop) ?_ ?_); (fail_if_success refine Exists.intro (α := L2.St → Hp → Prop) ?_ ?_); (fail_if_success refine Exists.intro (α := Nat → L2.St → Hp → Prop) ?_ ?_); apply Exists.intro) | ((refine And.intro ?_ ?_); first | with_reducible rfl | with_reducible assumption | rfl | ((with_reducible apply SqL.of); assumption) | ((with_reducible apply SqT.of); assumption) | ((with_reducible apply OwnC.cl); assumption) | (with_reducible exact isI_int _) | exact within_args | (with_reducible exact upd_same) | ((with_reducible apply Mid.o); assumption) | ((with_reducible apply Mid.t); assumption) | exact .inl ⟨rfl, _, SqL.of (by assumption)⟩ | (with_reducible exact ⟨_, SqT.of (by assumption)⟩) | (with_reducible exact ⟨_, SqL.of (by assumption)⟩) | omega | exact Nat.le_of_ble_eq_true rfl | exact nat9 (by omega) | exact ⟨_, rfl⟩ | (show _ ≤ sizeLine; decide) | exact ⟨by decide, by decide, by decide⟩ | exact .inl ⟨by decide, by decide⟩ | exact .inl ⟨by omega, by omega⟩ | exact .inr ⟨by omega, by omega⟩ | assumption | fail) | ((with_reducible refine iteF' ?_ ?_); first | rfl | exact decide_eq_false (by omega) | exact in_no (by omega) (by omega) | exact in_no (by omega) (by assumption) | (simp <;> fail) | fail) | ((with_reducible refine iteT' ?_ ?_); first | rfl | exact decide_eq_true (by omega) | (simp <;> fail) | fail))
            intro o2 h_o2; have np_o2 := M.pD h_o2; have nb_o2 := M.bD h_o2; generalize hE : upd _ o2 _ = H19; obtain ⟨S_o2, g_o2⟩ := new_facts h_o2 hE; clear hE; replace M := M.same S_o2; replace hl := hl.same S_o2; replace g_o1 := S_o2 _ _ g_o1
            repeat (first | (with_reducible refine st_tC ?_) | (with_reducible refine st_tOp ?_) | ((with_reducible apply st_n); rfl; rfl; (first | trivial | (show _ ≤ _; omega) | (show _ < _; omega) | (show _ ∨ _; omega) | assumption | exact ⟨by assumption, by omega⟩ | exact ⟨W30.one, by omega⟩ | fail); rfl) | (with_reducible refine st_i0 rfl rfl rfl ?_) | ((with_reducible refine st_i rfl rfl ?_ rfl ?_); first | omega | exact ⟨by decide, by decide, by decide⟩ | exact .inl ⟨by decide, by decide⟩ | exact .inl ⟨by omega, by omega⟩ | exact .inr ⟨by omega, by omega⟩ | fail) | ((fail_if_success refine Exists.intro (α := Nat → Nat → L2.St → Hp → Prop) ?_ ?_); (fail_if_success refine Exists.intro (α := L2.St → Hp → Prop) ?_ ?_); (fail_if_success refine Exists.intro (α := Nat → L2.St → Hp → Prop) ?_ ?_); apply Exists.intro) | ((refine And.intro ?_ ?_); first | with_reducible rfl | with_reducible assumption | rfl | ((with_reducible apply SqL.of); assumption) | ((with_reducible apply SqT.of); assumption) | ((with_reducible apply OwnC.cl); assumption) | (with_reducible exact isI_int _) | exact within_args | (with_reducible exact upd_same) | ((with_reducible apply Mid.o); assumption) | ((with_reducible apply Mid.t); assumption) | exact .inl ⟨rfl, _, SqL.of (by assumption)⟩ | (with_reducible exact ⟨_, SqT.of (by assumption)⟩) | (with_reducible exact ⟨_, SqL.of (by assumption)⟩) | omega | exact Nat.le_of_ble_eq_true rfl | exact nat9 (by omega) | exact ⟨_, rfl⟩ | (show _ ≤ sizeLine; decide) | exact ⟨by decide, by decide, by decide⟩ | exact .inl ⟨by decide, by decide⟩ | exact .inl ⟨by omega, by omega⟩ | exact .inr ⟨by omega, by omega⟩ | assumption | fail) | ((with_reducible refine iteF' ?_ ?_); first | rfl | exact decide_eq_false (by omega) | exact in_no (by omega) (by omega) | exact in_no (by omega) (by assumption) | (simp <;> fail) | fail) | ((with_reducible refine iteT' ?_ ?_); first | rfl | exact decide_eq_true (by omega) | (simp <;> fail) | fail))
            intro o3 h_o3; have np_o3 := M.pD h_o3; have nb_o3 := M.bD h_o3; generalize hE : upd _ o3 _ = H20; obtain ⟨S_o3, g_o3⟩ := new_facts h_o3 hE; clear hE; replace M := M.same S_o3; replace hl := hl.same S_o3; replace g_o1 := S_o3 _ _ g_o1; replace g_o2 := S_o3 _ _ g_o2
            repeat (first | (with_reducible refine st_tC ?_) | (with_reducible refine st_tOp ?_) | ((with_reducible apply st_n); rfl; rfl; (first | trivial | (show _ ≤ _; omega) | (show _ < _; omega) | (show _ ∨ _; omega) | assumption | exact ⟨by assumption, by omega⟩ | exact ⟨W30.one, by omega⟩ | fail); rfl) | (with_reducible refine st_i0 rfl rfl rfl ?_) | ((with_reducible refine st_i rfl rfl ?_ rfl ?_); first | omega | exact ⟨by decide, by decide, by decide⟩ | exact .inl ⟨by decide, by decide⟩ | exact .inl ⟨by omega, by omega⟩ | exact .inr ⟨by omega, by omega⟩ | fail) | ((fail_if_success refine Exists.intro (α := Nat → Nat → L2.St → Hp → Prop) ?_ ?_); (fail_if_success refine Exists.intro (α := L2.St → Hp → Prop) ?_ ?_); (fail_if_success refine Exists.intro (α := Nat → L2.St → Hp → Prop) ?_ ?_); apply Exists.intro) | ((refine And.intro ?_ ?_); first | with_reducible rfl | with_reducible assumption | rfl | ((with_reducible apply SqL.of); assumption) | ((with_reducible apply SqT.of); assumption) | ((with_reducible apply OwnC.cl); assumption) | (with_reducible exact isI_int _) | exact within_args | (with_reducible exact upd_same) | ((with_reducible apply Mid.o); assumption) | ((with_reducible apply Mid.t); assumption) | exact .inl ⟨rfl, _, SqL.of (by assumption)⟩ | (with_reducible exact ⟨_, SqT.of (by assumption)⟩) | (with_reducible exact ⟨_, SqL.of (by assumption)⟩) | omega | exact Nat.le_of_ble_eq_true rfl | exact nat9 (by omega) | exact ⟨_, rfl⟩ | (show _ ≤ sizeLine; decide) | exact ⟨by decide, by decide, by decide⟩ | exact .inl ⟨by decide, by decide⟩ | exact .inl ⟨by omega, by omega⟩ | exact .inr ⟨by omega, by omega⟩ | assumption | fail) | ((with_reducible refine iteF' ?_ ?_); first | rfl | exact decide_eq_false (by omega) | exact in_no (by omega) (by omega) | exact in_no (by omega) (by assumption) | (simp <;> fail) | fail) | ((with_reducible refine iteT' ?_ ?_); first | rfl | exact decide_eq_true (by omega) | (simp <;> fail) | fail))
            intro lo h_lo; have np_lo := M.pD h_lo; have nb_lo := M.bD h_lo; generalize hE : upd _ lo _ = H21; obtain ⟨S_lo, g_lo⟩ := new_facts h_lo hE; clear hE; replace M := M.same S_lo; replace hl := hl.same S_lo; replace g_o1 := S_lo _ _ g_o1; replace g_o2 := S_lo _ _ g_o2; replace g_o3 := S_lo _ _ g_o3
            repeat (first | (with_reducible refine st_tC ?_) | (with_reducible refine st_tOp ?_) | ((with_reducible apply st_n); rfl; rfl; (first | trivial | (show _ ≤ _; omega) | (show _ < _; omega) | (show _ ∨ _; omega) | assumption | exact ⟨by assumption, by omega⟩ | exact ⟨W30.one, by omega⟩ | fail); rfl) | (with_reducible refine st_i0 rfl rfl rfl ?_) | ((with_reducible refine st_i rfl rfl ?_ rfl ?_); first | omega | exact ⟨by decide, by decide, by decide⟩ | exact .inl ⟨by decide, by decide⟩ | exact .inl ⟨by omega, by omega⟩ | exact .inr ⟨by omega, by omega⟩ | fail) | ((fail_if_success refine Exists.intro (α := Nat → Nat → L2.St → Hp → Prop) ?_ ?_); (fail_if_success refine Exists.intro (α := L2.St → Hp → Prop) ?_ ?_); (fail_if_success refine Exists.intro (α := Nat → L2.St → Hp → Prop) ?_ ?_); apply Exists.intro) | ((refine And.intro ?_ ?_); first | with_reducible rfl | with_reducible assumption | rfl | ((with_reducible apply SqL.of); assumption) | ((with_reducible apply SqT.of); assumption) | ((with_reducible apply OwnC.cl); assumption) | (with_reducible exact isI_int _) | exact within_args | (with_reducible exact upd_same) | ((with_reducible apply Mid.o); assumption) | ((with_reducible apply Mid.t); assumption) | exact .inl ⟨rfl, _, SqL.of (by assumption)⟩ | (with_reducible exact ⟨_, SqT.of (by assumption)⟩) | (with_reducible exact ⟨_, SqL.of (by assumption)⟩) | omega | exact Nat.le_of_ble_eq_true rfl | exact nat9 (by omega) | exact ⟨_, rfl⟩ | (show _ ≤ sizeLine; decide) | exact ⟨by decide, by decide, by decide⟩ | exact .inl ⟨by decide, by decide⟩ | exact .inl ⟨by omega, by omega⟩ | exact .inr ⟨by omega, by omega⟩ | assumption | fail) | ((with_reducible refine iteF' ?_ ?_); first | rfl | exact decide_eq_false (by omega) | exact in_no (by omega) (by omega) | exact in_no (by omega) (by assumption) | (simp <;> fail) | fail) | ((with_reducible refine iteT' ?_ ?_); first | rfl | exact decide_eq_true (by omega) | (simp <;> fail) | fail))
            intro j_odd odd H22 e_odd O_odd B_odd; obtain ⟨_, _, _, hpX, _⟩ := id M.o; replace hl := hl.but B_odd hpX; replace g_o1 := B_odd _ _ g_o1 np_o1; replace g_o2 := B_odd _ _ g_o2 np_o2; replace g_o3 := B_odd _ _ g_o3 np_o3; replace M := M.draw O_odd B_odd; clear O_odd B_odd
            have badS : NotS (cxOf CX0 P w K mg base ["script", "mill", "bits", "means", "word", "layout", "items", "state", "text", "turn", "bent", "stop", "told", "odd"] "law" (defScope s_law) f cd A outer s H E).nox.K H22 odd := by
              have m := List.mem_of_getElem? e_odd
              obtain ⟨dy, fy, ty, y0, _⟩ := id hl
              simp only [List.mem_cons, List.not_mem_nil, or_false] at m
              rcases m with rfl | rfl | rfl | rfl | rfl | rfl | rfl
              · exact ⟨_, .base .non, kit_ty (by decide +kernel)⟩
              · exact ⟨_, .base (.int _), kit_ty (by decide +kernel)⟩
              · exact ⟨_, .base (.bl _), kit_ty (by decide +kernel)⟩
              · exact ⟨_, .base (.lst g_o1), kit_ty (by decide +kernel)⟩
              · exact ⟨_, .base (.tup g_o2), kit_ty (by decide +kernel)⟩
              · exact ⟨_, O_Layout.ty y0, kit_strO sstr⟩
              · exact ⟨_, .base (.dK g_o3), kit_ty (by decide +kernel)⟩
            clear e_odd j_odd g_o1 g_o2 g_o3 g_lo S_o1 S_o2 S_o3 S_lo h_o1 h_o2 h_o3 h_lo np_o1 np_o2 np_o3 np_lo nb_o1 nb_o2 nb_o3 nb_lo hl
            have s0 : stopL (Txt.split "" " ") = some 0 := by decide +kernel
            have s2 : stopL (Txt.split "1 0" " ") = some 2 := by decide +kernel
            have s3 : stopL (Txt.split "1 0 - 0" " ") = some 3 := by decide +kernel
            have no : ∀ (t : Str) (k : Nat), stopL (Txt.split t " ") = some k → ∀ b3 ms3, LayOk b3 ms3 → t = layText b3 ms3 → False := fun t k e b3 ms3 ok3 e3 => by
              rw [e3, lay_split ok3, stop_lay ok3] at e
              cases e
            have sh0 : SeqAt.shaped (.tuple [.int 0, .int 0]) = true := by decide +kernel
            have sh2 : SeqAt.shaped (.tuple [.int 0, .int 2]) = true := by decide +kernel
            have sh3 : SeqAt.shaped (.tuple [.int 0, .int 3]) = true := by decide +kernel
            repeat (first | (with_reducible refine st_tC ?_) | (with_reducible refine st_tOp ?_) | ((with_reducible apply st_n); rfl; rfl; (first | trivial | (show _ ≤ _; omega) | (show _ < _; omega) | (show _ ∨ _; omega) | assumption | exact ⟨by assumption, by omega⟩ | exact ⟨W30.one, by omega⟩ | fail); rfl) | (with_reducible refine st_i0 rfl rfl rfl ?_) | ((with_reducible refine st_i rfl rfl ?_ rfl ?_); first | omega | exact ⟨by decide, by decide, by decide⟩ | exact .inl ⟨by decide, by decide⟩ | exact .inl ⟨by omega, by omega⟩ | exact .inr ⟨by omega, by omega⟩ | fail) | ((fail_if_success refine Exists.intro (α := Nat → Nat → L2.St → Hp → Prop) ?_ ?_); (fail_if_success refine Exists.intro (α := L2.St → Hp → Prop) ?_ ?_); (fail_if_success refine Exists.intro (α := Nat → L2.St → Hp → Prop) ?_ ?_); apply Exists.intro) | ((refine And.intro ?_ ?_); first | with_reducible rfl | with_reducible assumption | rfl | ((with_reducible apply SqL.of); assumption) | ((with_reducible apply SqT.of); assumption) | ((with_reducible apply OwnC.cl); assumption) | (with_reducible exact isI_int _) | exact within_args | (with_reducible exact upd_same) | ((with_reducible apply Mid.o); assumption) | ((with_reducible apply Mid.t); assumption) | exact .inl ⟨rfl, _, SqL.of (by assumption)⟩ | (with_reducible exact ⟨_, SqT.of (by assumption)⟩) | (with_reducible exact ⟨_, SqL.of (by assumption)⟩) | omega | exact Nat.le_of_ble_eq_true rfl | exact nat9 (by omega) | exact ⟨_, rfl⟩ | (show _ ≤ sizeLine; decide) | exact ⟨by decide, by decide, by decide⟩ | exact .inl ⟨by decide, by decide⟩ | exact .inl ⟨by omega, by omega⟩ | exact .inr ⟨by omega, by omega⟩ | assumption | fail) | ((with_reducible refine iteF' ?_ ?_); first | rfl | exact decide_eq_false (by omega) | exact in_no (by omega) (by omega) | exact in_no (by omega) (by assumption) | (simp <;> fail) | fail) | ((with_reducible refine iteT' ?_ ?_); first | rfl | exact decide_eq_true (by omega) | (simp <;> fail) | fail))
            refine .inl ⟨badS, fun t H23 nt S23 g_t => ?_⟩
            replace M := M.same S23
            clear S23 nt badS
            repeat (first | (with_reducible refine st_tC ?_) | (with_reducible refine st_tOp ?_) | ((with_reducible apply st_n); rfl; rfl; (first | trivial | (show _ ≤ _; omega) | (show _ < _; omega) | (show _ ∨ _; omega) | assumption | exact ⟨by assumption, by omega⟩ | exact ⟨W30.one, by omega⟩ | fail); rfl) | (with_reducible refine st_i0 rfl rfl rfl ?_) | ((with_reducible refine st_i rfl rfl ?_ rfl ?_); first | omega | exact ⟨by decide, by decide, by decide⟩ | exact .inl ⟨by decide, by decide⟩ | exact .inl ⟨by omega, by omega⟩ | exact .inr ⟨by omega, by omega⟩ | fail) | ((fail_if_success refine Exists.intro (α := Nat → Nat → L2.St → Hp → Prop) ?_ ?_); (fail_if_success refine Exists.intro (α := L2.St → Hp → Prop) ?_ ?_); (fail_if_success refine Exists.intro (α := Nat → L2.St → Hp → Prop) ?_ ?_); apply Exists.intro) | ((refine And.intro ?_ ?_); first | with_reducible rfl | with_reducible assumption | rfl | ((with_reducible apply SqL.of); assumption) | ((with_reducible apply SqT.of); assumption) | ((with_reducible apply OwnC.cl); assumption) | (with_reducible exact isI_int _) | exact within_args | (with_reducible exact upd_same) | ((with_reducible apply Mid.o); assumption) | ((with_reducible apply Mid.t); assumption) | exact .inl ⟨rfl, _, SqL.of (by assumption)⟩ | (with_reducible exact ⟨_, SqT.of (by assumption)⟩) | (with_reducible exact ⟨_, SqL.of (by assumption)⟩) | omega | exact Nat.le_of_ble_eq_true rfl | exact nat9 (by omega) | exact ⟨_, rfl⟩ | (show _ ≤ sizeLine; decide) | exact ⟨by decide, by decide, by decide⟩ | exact .inl ⟨by decide, by decide⟩ | exact .inl ⟨by omega, by omega⟩ | exact .inr ⟨by omega, by omega⟩ | assumption | fail) | ((with_reducible refine iteF' ?_ ?_); first | rfl | exact decide_eq_false (by omega) | exact in_no (by omega) (by omega) | exact in_no (by omega) (by assumption) | (simp <;> fail) | fail) | ((with_reducible refine iteT' ?_ ?_); first | rfl | exact decide_eq_true (by omega) | (simp <;> fail) | fail))
            intro q1 h_q1; have np_q1 := M.pD h_q1; have nb_q1 := M.bD h_q1; generalize hE : upd _ q1 _ = H24; obtain ⟨S_q1, g_q1⟩ := new_facts h_q1 hE; clear hE; replace M := M.same S_q1; replace g_t := S_q1 _ _ g_t
            refine ⟨.tuple [.int 0, .int 0], .tuple [.int 0, .int 0], Dp.tup (SqT.of g_t) (.cons (.int _) (.cons (.int _) .nil)), Dp.tup (SqT.of g_q1) (.cons (.int _) (.cons (.int _) .nil)), sh0, sh0, ?_⟩
            rw [SeqAt.eqv_refl _ (SeqAt.canLay_of_shaped sh0)]
            clear g_t g_q1 S_q1 h_q1 np_q1 nb_q1
            refine ⟨_, rfl, iteT ?_⟩
            repeat (first | (with_reducible refine st_tC ?_) | (with_reducible refine st_tOp ?_) | ((with_reducible apply st_n); rfl; rfl; (first | trivial | (show _ ≤ _; omega) | (show _ < _; omega) | (show _ ∨ _; omega) | assumption | exact ⟨by assumption, by omega⟩ | exact ⟨W30.one, by omega⟩ | fail); rfl) | (with_reducible refine st_i0 rfl rfl rfl ?_) | ((with_reducible refine st_i rfl rfl ?_ rfl ?_); first | omega | exact ⟨by decide, by decide, by decide⟩ | exact .inl ⟨by decide, by decide⟩ | exact .inl ⟨by omega, by omega⟩ | exact .inr ⟨by omega, by omega⟩ | fail) | ((fail_if_success refine Exists.intro (α := Nat → Nat → L2.St → Hp → Prop) ?_ ?_); (fail_if_success refine Exists.intro (α := L2.St → Hp → Prop) ?_ ?_); (fail_if_success refine Exists.intro (α := Nat → L2.St → Hp → Prop) ?_ ?_); apply Exists.intro) | ((refine And.intro ?_ ?_); first | with_reducible rfl | with_reducible assumption | rfl | ((with_reducible apply SqL.of); assumption) | ((with_reducible apply SqT.of); assumption) | ((with_reducible apply OwnC.cl); assumption) | (with_reducible exact isI_int _) | exact within_args | (with_reducible exact upd_same) | ((with_reducible apply Mid.o); assumption) | ((with_reducible apply Mid.t); assumption) | exact .inl ⟨rfl, _, SqL.of (by assumption)⟩ | (with_reducible exact ⟨_, SqT.of (by assumption)⟩) | (with_reducible exact ⟨_, SqL.of (by assumption)⟩) | omega | exact Nat.le_of_ble_eq_true rfl | exact nat9 (by omega) | exact ⟨_, rfl⟩ | (show _ ≤ sizeLine; decide) | exact ⟨by decide, by decide, by decide⟩ | exact .inl ⟨by decide, by decide⟩ | exact .inl ⟨by omega, by omega⟩ | exact .inr ⟨by omega, by omega⟩ | assumption | fail) | ((with_reducible refine iteF' ?_ ?_); first | rfl | exact decide_eq_false (by omega) | exact in_no (by omega) (by omega) | exact in_no (by omega) (by assumption) | (simp <;> fail) | fail) | ((with_reducible refine iteT' ?_ ?_); first | rfl | exact decide_eq_true (by omega) | (simp <;> fail) | fail))
            refine .inr ⟨"", rfl, by decide +kernel, fun k' e' t H25 nt S23 g_t => ?_, fun b3 ms3 ok3 e3 => (no _ _ s0 _ _ ok3 e3).elim⟩
            rw [s0] at e'
            cases e'
            replace g_t : H25 t = some (.tup [.int 0, .int 0]) := g_t
            replace M := M.same S23
            clear S23 nt
            repeat (first | (with_reducible refine st_tC ?_) | (with_reducible refine st_tOp ?_) | ((with_reducible apply st_n); rfl; rfl; (first | trivial | (show _ ≤ _; omega) | (show _ < _; omega) | (show _ ∨ _; omega) | assumption | exact ⟨by assumption, by omega⟩ | exact ⟨W30.one, by omega⟩ | fail); rfl) | (with_reducible refine st_i0 rfl rfl rfl ?_) | ((with_reducible refine st_i rfl rfl ?_ rfl ?_); first | omega | exact ⟨by decide, by decide, by decide⟩ | exact .inl ⟨by decide, by decide⟩ | exact .inl ⟨by omega, by omega⟩ | exact .inr ⟨by omega, by omega⟩ | fail) | ((fail_if_success refine Exists.intro (α := Nat → Nat → L2.St → Hp → Prop) ?_ ?_); (fail_if_success refine Exists.intro (α := L2.St → Hp → Prop) ?_ ?_); (fail_if_success refine Exists.intro (α := Nat → L2.St → Hp → Prop) ?_ ?_); apply Exists.intro) | ((refine And.intro ?_ ?_); first | with_reducible rfl | with_reducible assumption | rfl | ((with_reducible apply SqL.of); assumption) | ((with_reducible apply SqT.of); assumption) | ((with_reducible apply OwnC.cl); assumption) | (with_reducible exact isI_int _) | exact within_args | (with_reducible exact upd_same) | ((with_reducible apply Mid.o); assumption) | ((with_reducible apply Mid.t); assumption) | exact .inl ⟨rfl, _, SqL.of (by assumption)⟩ | (with_reducible exact ⟨_, SqT.of (by assumption)⟩) | (with_reducible exact ⟨_, SqL.of (by assumption)⟩) | omega | exact Nat.le_of_ble_eq_true rfl | exact nat9 (by omega) | exact ⟨_, rfl⟩ | (show _ ≤ sizeLine; decide) | exact ⟨by decide, by decide, by decide⟩ | exact .inl ⟨by decide, by decide⟩ | exact .inl ⟨by omega, by omega⟩ | exact .inr ⟨by omega, by omega⟩ | assumption | fail) | ((with_reducible refine iteF' ?_ ?_); first | rfl | exact decide_eq_false (by omega) | exact in_no (by omega) (by omega) | exact in_no (by omega) (by assumption) | (simp <;> fail) | fail) | ((with_reducible refine iteT' ?_ ?_); first | rfl | exact decide_eq_true (by omega) | (simp <;> fail) | fail))
            intro q2 h_q2; have np_q2 := M.pD h_q2; have nb_q2 := M.bD h_q2; generalize hE : upd _ q2 _ = H26; obtain ⟨S_q2, g_q2⟩ := new_facts h_q2 hE; clear hE; replace M := M.same S_q2; replace g_t := S_q2 _ _ g_t
            refine ⟨.tuple [.int 0, .int 0], .tuple [.int 0, .int 0], Dp.tup (SqT.of g_t) (.cons (.int _) (.cons (.int _) .nil)), Dp.tup (SqT.of g_q2) (.cons (.int _) (.cons (.int _) .nil)), sh0, sh0, ?_⟩
            rw [SeqAt.eqv_refl _ (SeqAt.canLay_of_shaped sh0)]
            clear g_t g_q2 S_q2 h_q2 np_q2 nb_q2
            refine ⟨_, rfl, iteT ?_⟩
            repeat (first | (with_reducible refine st_tC ?_) | (with_reducible refine st_tOp ?_) | ((with_reducible apply st_n); rfl; rfl; (first | trivial | (show _ ≤ _; omega) | (show _ < _; omega) | (show _ ∨ _; omega) | assumption | exact ⟨by assumption, by omega⟩ | exact ⟨W30.one, by omega⟩ | fail); rfl) | (with_reducible refine st_i0 rfl rfl rfl ?_) | ((with_reducible refine st_i rfl rfl ?_ rfl ?_); first | omega | exact ⟨by decide, by decide, by decide⟩ | exact .inl ⟨by decide, by decide⟩ | exact .inl ⟨by omega, by omega⟩ | exact .inr ⟨by omega, by omega⟩ | fail) | ((fail_if_success refine Exists.intro (α := Nat → Nat → L2.St → Hp → Prop) ?_ ?_); (fail_if_success refine Exists.intro (α := L2.St → Hp → Prop) ?_ ?_); (fail_if_success refine Exists.intro (α := Nat → L2.St → Hp → Prop) ?_ ?_); apply Exists.intro) | ((refine And.intro ?_ ?_); first | with_reducible rfl | with_reducible assumption | rfl | ((with_reducible apply SqL.of); assumption) | ((with_reducible apply SqT.of); assumption) | ((with_reducible apply OwnC.cl); assumption) | (with_reducible exact isI_int _) | exact within_args | (with_reducible exact upd_same) | ((with_reducible apply Mid.o); assumption) | ((with_reducible apply Mid.t); assumption) | exact .inl ⟨rfl, _, SqL.of (by assumption)⟩ | (with_reducible exact ⟨_, SqT.of (by assumption)⟩) | (with_reducible exact ⟨_, SqL.of (by assumption)⟩) | omega | exact Nat.le_of_ble_eq_true rfl | exact nat9 (by omega) | exact ⟨_, rfl⟩ | (show _ ≤ sizeLine; decide) | exact ⟨by decide, by decide, by decide⟩ | exact .inl ⟨by decide, by decide⟩ | exact .inl ⟨by omega, by omega⟩ | exact .inr ⟨by omega, by omega⟩ | assumption | fail) | ((with_reducible refine iteF' ?_ ?_); first | rfl | exact decide_eq_false (by omega) | exact in_no (by omega) (by omega) | exact in_no (by omega) (by assumption) | (simp <;> fail) | fail) | ((with_reducible refine iteT' ?_ ?_); first | rfl | exact decide_eq_true (by omega) | (simp <;> fail) | fail))
            refine .inr ⟨"1 0", rfl, by decide +kernel, fun k' e' t H27 nt S23 g_t => ?_, fun b3 ms3 ok3 e3 => (no _ _ s2 _ _ ok3 e3).elim⟩
            rw [s2] at e'
            cases e'
            replace g_t : H27 t = some (.tup [.int 0, .int 2]) := g_t
            replace M := M.same S23
            clear S23 nt
            repeat (first | (with_reducible refine st_tC ?_) | (with_reducible refine st_tOp ?_) | ((with_reducible apply st_n); rfl; rfl; (first | trivial | (show _ ≤ _; omega) | (show _ < _; omega) | (show _ ∨ _; omega) | assumption | exact ⟨by assumption, by omega⟩ | exact ⟨W30.one, by omega⟩ | fail); rfl) | (with_reducible refine st_i0 rfl rfl rfl ?_) | ((with_reducible refine st_i rfl rfl ?_ rfl ?_); first | omega | exact ⟨by decide, by decide, by decide⟩ | exact .inl ⟨by decide, by decide⟩ | exact .inl ⟨by omega, by omega⟩ | exact .inr ⟨by omega, by omega⟩ | fail) | ((fail_if_success refine Exists.intro (α := Nat → Nat → L2.St → Hp → Prop) ?_ ?_); (fail_if_success refine Exists.intro (α := L2.St → Hp → Prop) ?_ ?_); (fail_if_success refine Exists.intro (α := Nat → L2.St → Hp → Prop) ?_ ?_); apply Exists.intro) | ((refine And.intro ?_ ?_); first | with_reducible rfl | with_reducible assumption | rfl | ((with_reducible apply SqL.of); assumption) | ((with_reducible apply SqT.of); assumption) | ((with_reducible apply OwnC.cl); assumption) | (with_reducible exact isI_int _) | exact within_args | (with_reducible exact upd_same) | ((with_reducible apply Mid.o); assumption) | ((with_reducible apply Mid.t); assumption) | exact .inl ⟨rfl, _, SqL.of (by assumption)⟩ | (with_reducible exact ⟨_, SqT.of (by assumption)⟩) | (with_reducible exact ⟨_, SqL.of (by assumption)⟩) | omega | exact Nat.le_of_ble_eq_true rfl | exact nat9 (by omega) | exact ⟨_, rfl⟩ | (show _ ≤ sizeLine; decide) | exact ⟨by decide, by decide, by decide⟩ | exact .inl ⟨by decide, by decide⟩ | exact .inl ⟨by omega, by omega⟩ | exact .inr ⟨by omega, by omega⟩ | assumption | fail) | ((with_reducible refine iteF' ?_ ?_); first | rfl | exact decide_eq_false (by omega) | exact in_no (by omega) (by omega) | exact in_no (by omega) (by assumption) | (simp <;> fail) | fail) | ((with_reducible refine iteT' ?_ ?_); first | rfl | exact decide_eq_true (by omega) | (simp <;> fail) | fail))
            intro q3 h_q3; have np_q3 := M.pD h_q3; have nb_q3 := M.bD h_q3; generalize hE : upd _ q3 _ = H28; obtain ⟨S_q3, g_q3⟩ := new_facts h_q3 hE; clear hE; replace M := M.same S_q3; replace g_t := S_q3 _ _ g_t
            refine ⟨.tuple [.int 0, .int 2], .tuple [.int 0, .int 2], Dp.tup (SqT.of g_t) (.cons (.int _) (.cons (.int _) .nil)), Dp.tup (SqT.of g_q3) (.cons (.int _) (.cons (.int _) .nil)), sh2, sh2, ?_⟩
            rw [SeqAt.eqv_refl _ (SeqAt.canLay_of_shaped sh2)]
            clear g_t g_q3 S_q3 h_q3 np_q3 nb_q3
            refine ⟨_, rfl, iteT ?_⟩
            repeat (first | (with_reducible refine st_tC ?_) | (with_reducible refine st_tOp ?_) | ((with_reducible apply st_n); rfl; rfl; (first | trivial | (show _ ≤ _; omega) | (show _ < _; omega) | (show _ ∨ _; omega) | assumption | exact ⟨by assumption, by omega⟩ | exact ⟨W30.one, by omega⟩ | fail); rfl) | (with_reducible refine st_i0 rfl rfl rfl ?_) | ((with_reducible refine st_i rfl rfl ?_ rfl ?_); first | omega | exact ⟨by decide, by decide, by decide⟩ | exact .inl ⟨by decide, by decide⟩ | exact .inl ⟨by omega, by omega⟩ | exact .inr ⟨by omega, by omega⟩ | fail) | ((fail_if_success refine Exists.intro (α := Nat → Nat → L2.St → Hp → Prop) ?_ ?_); (fail_if_success refine Exists.intro (α := L2.St → Hp → Prop) ?_ ?_); (fail_if_success refine Exists.intro (α := Nat → L2.St → Hp → Prop) ?_ ?_); apply Exists.intro) | ((refine And.intro ?_ ?_); first | with_reducible rfl | with_reducible assumption | rfl | ((with_reducible apply SqL.of); assumption) | ((with_reducible apply SqT.of); assumption) | ((with_reducible apply OwnC.cl); assumption) | (with_reducible exact isI_int _) | exact within_args | (with_reducible exact upd_same) | ((with_reducible apply Mid.o); assumption) | ((with_reducible apply Mid.t); assumption) | exact .inl ⟨rfl, _, SqL.of (by assumption)⟩ | (with_reducible exact ⟨_, SqT.of (by assumption)⟩) | (with_reducible exact ⟨_, SqL.of (by assumption)⟩) | omega | exact Nat.le_of_ble_eq_true rfl | exact nat9 (by omega) | exact ⟨_, rfl⟩ | (show _ ≤ sizeLine; decide) | exact ⟨by decide, by decide, by decide⟩ | exact .inl ⟨by decide, by decide⟩ | exact .inl ⟨by omega, by omega⟩ | exact .inr ⟨by omega, by omega⟩ | assumption | fail) | ((with_reducible refine iteF' ?_ ?_); first | rfl | exact decide_eq_false (by omega) | exact in_no (by omega) (by omega) | exact in_no (by omega) (by assumption) | (simp <;> fail) | fail) | ((with_reducible refine iteT' ?_ ?_); first | rfl | exact decide_eq_true (by omega) | (simp <;> fail) | fail))
            refine .inr ⟨"1 0 - 0", rfl, by decide +kernel, fun k' e' t H29 nt S23 g_t => ?_, fun b3 ms3 ok3 e3 => (no _ _ s3 _ _ ok3 e3).elim⟩
            rw [s3] at e'
            cases e'
            replace g_t : H29 t = some (.tup [.int 0, .int 3]) := g_t
            replace M := M.same S23
            clear S23 nt
            repeat (first | (with_reducible refine st_tC ?_) | (with_reducible refine st_tOp ?_) | ((with_reducible apply st_n); rfl; rfl; (first | trivial | (show _ ≤ _; omega) | (show _ < _; omega) | (show _ ∨ _; omega) | assumption | exact ⟨by assumption, by omega⟩ | exact ⟨W30.one, by omega⟩ | fail); rfl) | (with_reducible refine st_i0 rfl rfl rfl ?_) | ((with_reducible refine st_i rfl rfl ?_ rfl ?_); first | omega | exact ⟨by decide, by decide, by decide⟩ | exact .inl ⟨by decide, by decide⟩ | exact .inl ⟨by omega, by omega⟩ | exact .inr ⟨by omega, by omega⟩ | fail) | ((fail_if_success refine Exists.intro (α := Nat → Nat → L2.St → Hp → Prop) ?_ ?_); (fail_if_success refine Exists.intro (α := L2.St → Hp → Prop) ?_ ?_); (fail_if_success refine Exists.intro (α := Nat → L2.St → Hp → Prop) ?_ ?_); apply Exists.intro) | ((refine And.intro ?_ ?_); first | with_reducible rfl | with_reducible assumption | rfl | ((with_reducible apply SqL.of); assumption) | ((with_reducible apply SqT.of); assumption) | ((with_reducible apply OwnC.cl); assumption) | (with_reducible exact isI_int _) | exact within_args | (with_reducible exact upd_same) | ((with_reducible apply Mid.o); assumption) | ((with_reducible apply Mid.t); assumption) | exact .inl ⟨rfl, _, SqL.of (by assumption)⟩ | (with_reducible exact ⟨_, SqT.of (by assumption)⟩) | (with_reducible exact ⟨_, SqL.of (by assumption)⟩) | omega | exact Nat.le_of_ble_eq_true rfl | exact nat9 (by omega) | exact ⟨_, rfl⟩ | (show _ ≤ sizeLine; decide) | exact ⟨by decide, by decide, by decide⟩ | exact .inl ⟨by decide, by decide⟩ | exact .inl ⟨by omega, by omega⟩ | exact .inr ⟨by omega, by omega⟩ | assumption | fail) | ((with_reducible refine iteF' ?_ ?_); first | rfl | exact decide_eq_false (by omega) | exact in_no (by omega) (by omega) | exact in_no (by omega) (by assumption) | (simp <;> fail) | fail) | ((with_reducible refine iteT' ?_ ?_); first | rfl | exact decide_eq_true (by omega) | (simp <;> fail) | fail))
            intro q4 h_q4; have np_q4 := M.pD h_q4; have nb_q4 := M.bD h_q4; generalize hE : upd _ q4 _ = H30; obtain ⟨S_q4, g_q4⟩ := new_facts h_q4 hE; clear hE; replace M := M.same S_q4; replace g_t := S_q4 _ _ g_t
            refine ⟨.tuple [.int 0, .int 3], .tuple [.int 0, .int 3], Dp.tup (SqT.of g_t) (.cons (.int _) (.cons (.int _) .nil)), Dp.tup (SqT.of g_q4) (.cons (.int _) (.cons (.int _) .nil)), sh3, sh3, ?_⟩
            rw [SeqAt.eqv_refl _ (SeqAt.canLay_of_shaped sh3)]
            clear g_t g_q4 S_q4 h_q4 np_q4 nb_q4
            exact k _
    obtain ⟨t, h1, h2⟩ := t0
    exact ⟨t, h1.nox, h2⟩
end
end K12
namespace K12
open PySem PySem.Spec PyProof.Rows L2 OB SkE LamX ClX
theorem all_mk {l : PySem.W.OpenLaw} {w : World} {K : PySem.W.Frag} {h : Heap} {mg : Str → Option Value} {fa f_is_integer f_is_within f_is_list f_items_of f_integer_of f_item_at f_integer_at f_need_end f__is_meaning f__meaning_at f__law_mill f__law_grind f__law_one_of f__law_integer f__law_within f__law_stop f__law_heard f__law_bent f_law CF C_BadLayout fi_BadLayout N_BadLayout C_BadText fi_BadText N_BadText C_Layout f_Layout_init f_Layout_eq f_Layout_str f_Layout_read p_Layout_read : Addr} {cd_is_integer oc_is_integer kV_is_integer dc_is_integer pm_is_integer ct_is_integer cd_is_within oc_is_within kV_is_within dc_is_within pm_is_within ct_is_within cd_is_list oc_is_list kV_is_list dc_is_list pm_is_list ct_is_list cd_items_of oc_items_of kV_items_of dc_items_of pm_items_of ct_items_of cd_integer_of oc_integer_of kV_integer_of dc_integer_of pm_integer_of ct_integer_of cd_item_at oc_item_at kV_item_at dc_item_at pm_item_at ct_item_at cd_integer_at oc_integer_at kV_integer_at dc_integer_at pm_integer_at ct_integer_at cd_need_end oc_need_end kV_need_end dc_need_end pm_need_end ct_need_end cd__is_meaning oc__is_meaning kV__is_meaning dc__is_meaning pm__is_meaning ct__is_meaning cd__meaning_at oc__meaning_at kV__meaning_at dc__meaning_at pm__meaning_at ct__meaning_at cd__law_mill oc__law_mill kV__law_mill dc__law_mill pm__law_mill ct__law_mill cd__law_grind oc__law_grind kV__law_grind dc__law_grind pm__law_grind ct__law_grind cd__law_one_of oc__law_one_of kV__law_one_of dc__law_one_of pm__law_one_of ct__law_one_of cd__law_integer oc__law_integer kV__law_integer dc__law_integer pm__law_integer ct__law_integer cd__law_within oc__law_within kV__law_within dc__law_within pm__law_within ct__law_within cd__law_stop oc__law_stop kV__law_stop dc__law_stop pm__law_stop ct__law_stop cd__law_heard oc__law_heard kV__law_heard dc__law_heard pm__law_heard ct__law_heard cd__law_bent oc__law_bent kV__law_bent dc__law_bent pm__law_bent ct__law_bent cd_law oc_law kV_law dc_law pm_law ct_law oi_BadLayout kVi_BadLayout dci_BadLayout pmi_BadLayout cti_BadLayout cdi_BadLayout oi_BadText kVi_BadText dci_BadText pmi_BadText cti_BadText cdi_BadText oc_Layout_init kV_Layout_init dc_Layout_init pm_Layout_init cd_Layout_init ct_Layout_init oc_Layout_eq kV_Layout_eq dc_Layout_eq pm_Layout_eq cd_Layout_eq ct_Layout_eq oc_Layout_str kV_Layout_str dc_Layout_str pm_Layout_str cd_Layout_str ct_Layout_str oc_Layout_read kV_Layout_read dc_Layout_read pm_Layout_read cd_Layout_read ct_Layout_read : Value} {od_is_integer an_is_integer od_is_within an_is_within od_is_list an_is_list od_items_of an_items_of od_integer_of an_integer_of od_item_at an_item_at od_integer_at an_integer_at od_need_end an_need_end od__is_meaning an__is_meaning od__meaning_at an__meaning_at od__law_mill an__law_mill od__law_grind an__law_grind od__law_one_of an__law_one_of od__law_integer an__law_integer od__law_within an__law_within od__law_stop an__law_stop od__law_heard an__law_heard od__law_bent an__law_bent od_law an_law odi_BadLayout ani_BadLayout dd_BadLayout odi_BadText ani_BadText dd_BadText od_Layout_init an_Layout_init od_Layout_eq an_Layout_eq od_Layout_str an_Layout_str od_Layout_read an_Layout_read : Option Addr} {sl_is_integer sl_is_within sl_is_list sl_items_of sl_integer_of sl_item_at sl_integer_at sl_need_end sl__is_meaning sl__meaning_at sl__law_mill sl__law_grind sl__law_one_of sl__law_integer sl__law_within sl__law_stop sl__law_heard sl__law_bent sl_law sli_BadLayout sli_BadText sl_Layout_init sl_Layout_eq sl_Layout_str sl_Layout_read : Array (Option Value)}  {t_MOST_DIGITS t_MOST_BITS t_MOST_STATE t_NOTHING : Tok}{rs_Layout_read : List Value} {nm_BadLayout q_BadLayout : Str} {bs_BadLayout sub_BadLayout : List Value} {sn_BadLayout : List Str} {ab_BadLayout : Bool} {col_BadLayout : Option Bool} {m0_BadLayout m1_BadLayout m2_BadLayout m3_BadLayout m5_BadLayout : Option Value} {nm_BadText q_BadText : Str} {bs_BadText sub_BadText : List Value} {sn_BadText : List Str} {ab_BadText : Bool} {col_BadText : Option Bool} {m0_BadText m1_BadText m2_BadText m3_BadText m5_BadText : Option Value}
    (X : K.In h) (G : h.Ns mainGlobals mg) (hfa : mg "law" = some (.ref fa))
    (a_is_integer : PySem.W.nsIn K mainGlobals "is_integer" = some (some (.ref f_is_integer)))
    (l_is_integer : K.lookup f_is_integer = some ⟨oc_is_integer, od_is_integer, .func (PySem.W.fnOf "is_integer" "is_integer" (defArgs s_is_integer) (defBody s_is_integer) (defScope s_is_integer) .none kV_is_integer dc_is_integer pm_is_integer an_is_integer cd_is_integer ct_is_integer), sl_is_integer⟩)
    (c_is_integer : PySem.W.codeIn K cd_is_integer "is_integer" = true)
    (k_is_integer : PySem.W.keepIn K (.ref f_is_integer) = true)
    (a_is_within : PySem.W.nsIn K mainGlobals "is_within" = some (some (.ref f_is_within)))
    (l_is_within : K.lookup f_is_within = some ⟨oc_is_within, od_is_within, .func (PySem.W.fnOf "is_within" "is_within" (defArgs s_is_within) (defBody s_is_within) (defScope s_is_within) .none kV_is_within dc_is_within pm_is_within an_is_within cd_is_within ct_is_within), sl_is_within⟩)
    (c_is_within : PySem.W.codeIn K cd_is_within "is_within" = true)
    (k_is_within : PySem.W.keepIn K (.ref f_is_within) = true)
    (a_is_list : PySem.W.nsIn K mainGlobals "is_list" = some (some (.ref f_is_list)))
    (l_is_list : K.lookup f_is_list = some ⟨oc_is_list, od_is_list, .func (PySem.W.fnOf "is_list" "is_list" (defArgs s_is_list) (defBody s_is_list) (defScope s_is_list) .none kV_is_list dc_is_list pm_is_list an_is_list cd_is_list ct_is_list), sl_is_list⟩)
    (c_is_list : PySem.W.codeIn K cd_is_list "is_list" = true)
    (k_is_list : PySem.W.keepIn K (.ref f_is_list) = true)
    (a_items_of : PySem.W.nsIn K mainGlobals "items_of" = some (some (.ref f_items_of)))
    (l_items_of : K.lookup f_items_of = some ⟨oc_items_of, od_items_of, .func (PySem.W.fnOf "items_of" "items_of" (defArgs s_items_of) (defBody s_items_of) (defScope s_items_of) .none kV_items_of dc_items_of pm_items_of an_items_of cd_items_of ct_items_of), sl_items_of⟩)
    (c_items_of : PySem.W.codeIn K cd_items_of "items_of" = true)
    (k_items_of : PySem.W.keepIn K (.ref f_items_of) = true)
    (a_integer_of : PySem.W.nsIn K mainGlobals "integer_of" = some (some (.ref f_integer_of)))
    (l_integer_of : K.lookup f_integer_of = some ⟨oc_integer_of, od_integer_of, .func (PySem.W.fnOf "integer_of" "integer_of" (defArgs s_integer_of) (defBody s_integer_of) (defScope s_integer_of) .none kV_integer_of dc_integer_of pm_integer_of an_integer_of cd_integer_of ct_integer_of), sl_integer_of⟩)
    (c_integer_of : PySem.W.codeIn K cd_integer_of "integer_of" = true)
    (k_integer_of : PySem.W.keepIn K (.ref f_integer_of) = true)
    (a_item_at : PySem.W.nsIn K mainGlobals "item_at" = some (some (.ref f_item_at)))
    (l_item_at : K.lookup f_item_at = some ⟨oc_item_at, od_item_at, .func (PySem.W.fnOf "item_at" "item_at" (defArgs s_item_at) (defBody s_item_at) (defScope s_item_at) .none kV_item_at dc_item_at pm_item_at an_item_at cd_item_at ct_item_at), sl_item_at⟩)
    (c_item_at : PySem.W.codeIn K cd_item_at "item_at" = true)
    (k_item_at : PySem.W.keepIn K (.ref f_item_at) = true)
    (a_integer_at : PySem.W.nsIn K mainGlobals "integer_at" = some (some (.ref f_integer_at)))
    (l_integer_at : K.lookup f_integer_at = some ⟨oc_integer_at, od_integer_at, .func (PySem.W.fnOf "integer_at" "integer_at" (defArgs s_integer_at) (defBody s_integer_at) (defScope s_integer_at) .none kV_integer_at dc_integer_at pm_integer_at an_integer_at cd_integer_at ct_integer_at), sl_integer_at⟩)
    (c_integer_at : PySem.W.codeIn K cd_integer_at "integer_at" = true)
    (k_integer_at : PySem.W.keepIn K (.ref f_integer_at) = true)
    (a_need_end : PySem.W.nsIn K mainGlobals "need_end" = some (some (.ref f_need_end)))
    (l_need_end : K.lookup f_need_end = some ⟨oc_need_end, od_need_end, .func (PySem.W.fnOf "need_end" "need_end" (defArgs s_need_end) (defBody s_need_end) (defScope s_need_end) .none kV_need_end dc_need_end pm_need_end an_need_end cd_need_end ct_need_end), sl_need_end⟩)
    (c_need_end : PySem.W.codeIn K cd_need_end "need_end" = true)
    (k_need_end : PySem.W.keepIn K (.ref f_need_end) = true)
    (a__is_meaning : PySem.W.nsIn K mainGlobals "_is_meaning" = some (some (.ref f__is_meaning)))
    (l__is_meaning : K.lookup f__is_meaning = some ⟨oc__is_meaning, od__is_meaning, .func (PySem.W.fnOf "_is_meaning" "_is_meaning" (defArgs s__is_meaning) (defBody s__is_meaning) (defScope s__is_meaning) .none kV__is_meaning dc__is_meaning pm__is_meaning an__is_meaning cd__is_meaning ct__is_meaning), sl__is_meaning⟩)
    (c__is_meaning : PySem.W.codeIn K cd__is_meaning "_is_meaning" = true)
    (k__is_meaning : PySem.W.keepIn K (.ref f__is_meaning) = true)
    (a__meaning_at : PySem.W.nsIn K mainGlobals "_meaning_at" = some (some (.ref f__meaning_at)))
    (l__meaning_at : K.lookup f__meaning_at = some ⟨oc__meaning_at, od__meaning_at, .func (PySem.W.fnOf "_meaning_at" "_meaning_at" (defArgs s__meaning_at) (defBody s__meaning_at) (defScope s__meaning_at) .none kV__meaning_at dc__meaning_at pm__meaning_at an__meaning_at cd__meaning_at ct__meaning_at), sl__meaning_at⟩)
    (c__meaning_at : PySem.W.codeIn K cd__meaning_at "_meaning_at" = true)
    (k__meaning_at : PySem.W.keepIn K (.ref f__meaning_at) = true)
    (a__law_mill : PySem.W.nsIn K mainGlobals "_law_mill" = some (some (.ref f__law_mill)))
    (l__law_mill : K.lookup f__law_mill = some ⟨oc__law_mill, od__law_mill, .func (PySem.W.fnOf "_law_mill" "_law_mill" (defArgs s__law_mill) (defBody s__law_mill) (defScope s__law_mill) .none kV__law_mill dc__law_mill pm__law_mill an__law_mill cd__law_mill ct__law_mill), sl__law_mill⟩)
    (c__law_mill : PySem.W.codeIn K cd__law_mill "_law_mill" = true)
    (k__law_mill : PySem.W.keepIn K (.ref f__law_mill) = true)
    (a__law_grind : PySem.W.nsIn K mainGlobals "_law_grind" = some (some (.ref f__law_grind)))
    (l__law_grind : K.lookup f__law_grind = some ⟨oc__law_grind, od__law_grind, .func (PySem.W.fnOf "_law_grind" "_law_grind" (defArgs s__law_grind) (defBody s__law_grind) (defScope s__law_grind) .none kV__law_grind dc__law_grind pm__law_grind an__law_grind cd__law_grind ct__law_grind), sl__law_grind⟩)
    (c__law_grind : PySem.W.codeIn K cd__law_grind "_law_grind" = true)
    (k__law_grind : PySem.W.keepIn K (.ref f__law_grind) = true)
    (a__law_one_of : PySem.W.nsIn K mainGlobals "_law_one_of" = some (some (.ref f__law_one_of)))
    (l__law_one_of : K.lookup f__law_one_of = some ⟨oc__law_one_of, od__law_one_of, .func (PySem.W.fnOf "_law_one_of" "_law_one_of" (defArgs s__law_one_of) (defBody s__law_one_of) (defScope s__law_one_of) .none kV__law_one_of dc__law_one_of pm__law_one_of an__law_one_of cd__law_one_of ct__law_one_of), sl__law_one_of⟩)
    (c__law_one_of : PySem.W.codeIn K cd__law_one_of "_law_one_of" = true)
    (k__law_one_of : PySem.W.keepIn K (.ref f__law_one_of) = true)
    (a__law_integer : PySem.W.nsIn K mainGlobals "_law_integer" = some (some (.ref f__law_integer)))
    (l__law_integer : K.lookup f__law_integer = some ⟨oc__law_integer, od__law_integer, .func (PySem.W.fnOf "_law_integer" "_law_integer" (defArgs s__law_integer) (defBody s__law_integer) (defScope s__law_integer) .none kV__law_integer dc__law_integer pm__law_integer an__law_integer cd__law_integer ct__law_integer), sl__law_integer⟩)
    (c__law_integer : PySem.W.codeIn K cd__law_integer "_law_integer" = true)
    (k__law_integer : PySem.W.keepIn K (.ref f__law_integer) = true)
    (a__law_within : PySem.W.nsIn K mainGlobals "_law_within" = some (some (.ref f__law_within)))
    (l__law_within : K.lookup f__law_within = some ⟨oc__law_within, od__law_within, .func (PySem.W.fnOf "_law_within" "_law_within" (defArgs s__law_within) (defBody s__law_within) (defScope s__law_within) .none kV__law_within dc__law_within pm__law_within an__law_within cd__law_within ct__law_within), sl__law_within⟩)
    (c__law_within : PySem.W.codeIn K cd__law_within "_law_within" = true)
    (k__law_within : PySem.W.keepIn K (.ref f__law_within) = true)
    (a__law_stop : PySem.W.nsIn K mainGlobals "_law_stop" = some (some (.ref f__law_stop)))
    (l__law_stop : K.lookup f__law_stop = some ⟨oc__law_stop, od__law_stop, .func (PySem.W.fnOf "_law_stop" "_law_stop" (defArgs s__law_stop) (defBody s__law_stop) (defScope s__law_stop) .none kV__law_stop dc__law_stop pm__law_stop an__law_stop cd__law_stop ct__law_stop), sl__law_stop⟩)
    (c__law_stop : PySem.W.codeIn K cd__law_stop "_law_stop" = true)
    (k__law_stop : PySem.W.keepIn K (.ref f__law_stop) = true)
    (a__law_heard : PySem.W.nsIn K mainGlobals "_law_heard" = some (some (.ref f__law_heard)))
    (l__law_heard : K.lookup f__law_heard = some ⟨oc__law_heard, od__law_heard, .func (PySem.W.fnOf "_law_heard" "_law_heard" (defArgs s__law_heard) (defBody s__law_heard) (defScope s__law_heard) .none kV__law_heard dc__law_heard pm__law_heard an__law_heard cd__law_heard ct__law_heard), sl__law_heard⟩)
    (c__law_heard : PySem.W.codeIn K cd__law_heard "_law_heard" = true)
    (k__law_heard : PySem.W.keepIn K (.ref f__law_heard) = true)
    (a__law_bent : PySem.W.nsIn K mainGlobals "_law_bent" = some (some (.ref f__law_bent)))
    (l__law_bent : K.lookup f__law_bent = some ⟨oc__law_bent, od__law_bent, .func (PySem.W.fnOf "_law_bent" "_law_bent" (defArgs s__law_bent) (defBody s__law_bent) (defScope s__law_bent) .none kV__law_bent dc__law_bent pm__law_bent an__law_bent cd__law_bent ct__law_bent), sl__law_bent⟩)
    (c__law_bent : PySem.W.codeIn K cd__law_bent "_law_bent" = true)
    (k__law_bent : PySem.W.keepIn K (.ref f__law_bent) = true)
    (a_law : PySem.W.nsIn K mainGlobals "law" = some (some (.ref f_law)))
    (l_law : K.lookup f_law = some ⟨oc_law, od_law, .func (PySem.W.fnOf "law" "law" (defArgs s_law) (defBody s_law) (defScope s_law) .none kV_law dc_law pm_law an_law cd_law ct_law), sl_law⟩)
    (c_law : PySem.W.codeIn K cd_law "law" = true)
    (k_law : PySem.W.keepIn K (.ref f_law) = true)
    (aF : PySem.W.nsIn K mainGlobals "FlipError" = some (some (.ref CF)))
    (eF : PySem.W.subIn K (.ref CF) (.type "BaseException") = some true)
    (dF : PySem.W.hasDictIn K CF = true)
    (tF : PySem.W.typeIn K (.ref CF) = some (.type "type"))
    (a_BadLayout : PySem.W.nsIn K mainGlobals "BadLayout" = some (some (.ref C_BadLayout)))
    (x_BadLayout : K.lookup C_BadLayout = some (excClassObj nm_BadLayout q_BadLayout C_BadLayout N_BadLayout bs_BadLayout [.ref CF, .type "ValueError", .type "Exception", .type "BaseException", .type "object"] true sn_BadLayout sub_BadLayout ab_BadLayout col_BadLayout dd_BadLayout m0_BadLayout m1_BadLayout m2_BadLayout m3_BadLayout m5_BadLayout "ValueError.__new__"))
    (sa_BadLayout : PySem.W.findIn K (.ref C_BadLayout) "__setattr__" = some (some (.builtin "object.__setattr__")))
    (e_BadLayout : PySem.W.subIn K (.ref C_BadLayout) (.type "BaseException") = some true)
    (t_BadLayout : PySem.W.typeIn K (.ref C_BadLayout) = some (.type "type"))
    (k_BadLayout : PySem.W.keepIn K (.ref C_BadLayout) = true)
    (i_BadLayout : PySem.W.findIn K (.ref C_BadLayout) "__init__" = some (some (.ref fi_BadLayout)))
    (ti_BadLayout : PySem.W.typeIn K (.ref fi_BadLayout) = some (.type "function"))
    (li_BadLayout : K.lookup fi_BadLayout = some ⟨oi_BadLayout, odi_BadLayout, .func (PySem.W.fnOf "__init__" "BadLayout.__init__" (defArgs s_init_BadLayout) (defBody s_init_BadLayout) (defScope s_init_BadLayout) .none kVi_BadLayout dci_BadLayout pmi_BadLayout ani_BadLayout cdi_BadLayout cti_BadLayout), sli_BadLayout⟩)
    (ci_BadLayout : PySem.W.codeIn K cdi_BadLayout "BadLayout.__init__" = true)
    (ki_BadLayout : PySem.W.keepIn K (.ref fi_BadLayout) = true)
    (no_BadLayout_part : PySem.W.findIn K (.ref C_BadLayout) "part" = some none)
    (ga_BadLayout : PySem.W.findIn K (.ref C_BadLayout) "__getattribute__" = some (some (.builtin "BaseException.__getattribute__")))
    (gg_BadLayout : PySem.W.findIn K (.ref C_BadLayout) "__getattr__" = some none)
    (hd_BadLayout : PySem.W.hasDictIn K C_BadLayout = true)
    (ha_BadLayout : PySem.W.findIn K (.ref C_BadLayout) "__class__" = some (some (.builtin "object.__class__")))
    (hm_BadLayout : PySem.W.mroIn K C_BadLayout (.type "object") = some true)
    (sf_BadLayout : PySem.W.subIn K (.ref C_BadLayout) (.ref CF) = some true)
    (is_BadLayout : PySem.W.isClsIn K C_BadLayout = true)
    (z_BadLayout : PySem.W.subIn K (.type "NoneType") (.ref C_BadLayout) = some false)
    (a_BadText : PySem.W.nsIn K mainGlobals "BadText" = some (some (.ref C_BadText)))
    (x_BadText : K.lookup C_BadText = some (excClassObj nm_BadText q_BadText C_BadText N_BadText bs_BadText [.ref CF, .type "ValueError", .type "Exception", .type "BaseException", .type "object"] true sn_BadText sub_BadText ab_BadText col_BadText dd_BadText m0_BadText m1_BadText m2_BadText m3_BadText m5_BadText "ValueError.__new__"))
    (sa_BadText : PySem.W.findIn K (.ref C_BadText) "__setattr__" = some (some (.builtin "object.__setattr__")))
    (e_BadText : PySem.W.subIn K (.ref C_BadText) (.type "BaseException") = some true)
    (t_BadText : PySem.W.typeIn K (.ref C_BadText) = some (.type "type"))
    (k_BadText : PySem.W.keepIn K (.ref C_BadText) = true)
    (i_BadText : PySem.W.findIn K (.ref C_BadText) "__init__" = some (some (.ref fi_BadText)))
    (ti_BadText : PySem.W.typeIn K (.ref fi_BadText) = some (.type "function"))
    (li_BadText : K.lookup fi_BadText = some ⟨oi_BadText, odi_BadText, .func (PySem.W.fnOf "__init__" "BadText.__init__" (defArgs s_init_BadText) (defBody s_init_BadText) (defScope s_init_BadText) .none kVi_BadText dci_BadText pmi_BadText ani_BadText cdi_BadText cti_BadText), sli_BadText⟩)
    (ci_BadText : PySem.W.codeIn K cdi_BadText "BadText.__init__" = true)
    (ki_BadText : PySem.W.keepIn K (.ref fi_BadText) = true)
    (no_BadText_line : PySem.W.findIn K (.ref C_BadText) "line" = some none)
    (no_BadText_item : PySem.W.findIn K (.ref C_BadText) "item" = some none)
    (ga_BadText : PySem.W.findIn K (.ref C_BadText) "__getattribute__" = some (some (.builtin "BaseException.__getattribute__")))
    (gg_BadText : PySem.W.findIn K (.ref C_BadText) "__getattr__" = some none)
    (hd_BadText : PySem.W.hasDictIn K C_BadText = true)
    (ha_BadText : PySem.W.findIn K (.ref C_BadText) "__class__" = some (some (.builtin "object.__class__")))
    (hm_BadText : PySem.W.mroIn K C_BadText (.type "object") = some true)
    (sf_BadText : PySem.W.subIn K (.ref C_BadText) (.ref CF) = some true)
    (is_BadText : PySem.W.isClsIn K C_BadText = true)
    (z_BadText : PySem.W.subIn K (.type "NoneType") (.ref C_BadText) = some false)
    (sub_BadLayout_BadLayout : PySem.W.subIn K (.ref C_BadLayout) (.ref C_BadLayout) = some true)
    (sub_BadLayout_BadText : PySem.W.subIn K (.ref C_BadLayout) (.ref C_BadText) = some false)
    (sub_BadText_BadLayout : PySem.W.subIn K (.ref C_BadText) (.ref C_BadLayout) = some false)
    (sub_BadText_BadText : PySem.W.subIn K (.ref C_BadText) (.ref C_BadText) = some true)
    (spn : PySem.W.specialIn K (.builtin "object.__class__") "__get__" = some (some (.builtin "getset_descriptor.__get__")))
    (tkn : PySem.W.takesIn K (.builtin "object.__class__") = some true)
    (a_MOST_DIGITS : PySem.W.nsIn K mainGlobals "MOST_DIGITS" = some (some (.int 140 t_MOST_DIGITS)))
    (a_MOST_BITS : PySem.W.nsIn K mainGlobals "MOST_BITS" = some (some (.int 8 t_MOST_BITS)))
    (a_MOST_STATE : PySem.W.nsIn K mainGlobals "MOST_STATE" = some (some (.int 63 t_MOST_STATE)))
    (a_NOTHING : PySem.W.nsIn K mainGlobals "NOTHING" = some (some (.str "-" t_NOTHING)))
    (n_abs : PySem.W.nsIn K mainGlobals "abs" = some none)
    (n_all : PySem.W.nsIn K mainGlobals "all" = some none)
    (n_bool : PySem.W.nsIn K mainGlobals "bool" = some none)
    (n_int : PySem.W.nsIn K mainGlobals "int" = some none)
    (n_isinstance : PySem.W.nsIn K mainGlobals "isinstance" = some none)
    (n_len : PySem.W.nsIn K mainGlobals "len" = some none)
    (n_list : PySem.W.nsIn K mainGlobals "list" = some none)
    (n_min : PySem.W.nsIn K mainGlobals "min" = some none)
    (n_range : PySem.W.nsIn K mainGlobals "range" = some none)
    (n_str : PySem.W.nsIn K mainGlobals "str" = some none)
    (n_tuple : PySem.W.nsIn K mainGlobals "tuple" = some none)
    (aC_Layout : PySem.W.nsIn K mainGlobals "Layout" = some (some (.ref C_Layout)))
    (pg_Layout : PySem.W.plainGet K C_Layout Str.empty = true)
    (hdC_Layout : PySem.W.hasDictIn K C_Layout = true)
    (po_Layout : PySem.W.plainOver K C_Layout = true)
    (saC_Layout : PySem.W.findIn K (.ref C_Layout) "__setattr__" = some (some (.builtin "object.__setattr__")))
    (mkC_Layout : PySem.W.makesIn K C_Layout = true)
    (kcC_Layout : PySem.W.keepIn K (.ref C_Layout) = true)
    (haC_Layout : PySem.W.findIn K (.ref C_Layout) "__class__" = some (some (.builtin "object.__class__")))
    (hmC_Layout : PySem.W.mroIn K C_Layout (.type "object") = some true)
    (isC_Layout : PySem.W.isClsIn K C_Layout = true)
    (tyC_Layout : PySem.W.typeIn K (.ref C_Layout) = some (.type "type"))
    (sfC_Layout : PySem.W.subIn K (.ref C_Layout) (.ref C_Layout) = some true)
    (suNoneType_Layout : PySem.W.subIn K (.type "NoneType") (.ref C_Layout) = some false)
    (suint_Layout : PySem.W.subIn K (.type "int") (.ref C_Layout) = some false)
    (subool_Layout : PySem.W.subIn K (.type "bool") (.ref C_Layout) = some false)
    (sustr_Layout : PySem.W.subIn K (.type "str") (.ref C_Layout) = some false)
    (sulist_Layout : PySem.W.subIn K (.type "list") (.ref C_Layout) = some false)
    (sutuple_Layout : PySem.W.subIn K (.type "tuple") (.ref C_Layout) = some false)
    (sudict_Layout : PySem.W.subIn K (.type "dict") (.ref C_Layout) = some false)
    (nC_Layout_bits : PySem.W.findIn K (.ref C_Layout) "bits" = some none)
    (nC_Layout_means : PySem.W.findIn K (.ref C_Layout) "means" = some none)
    (fi_Layout_init : PySem.W.findIn K (.ref C_Layout) "__init__" = some (some (.ref f_Layout_init)))
    (if_Layout_init : PySem.W.isFn K (.ref f_Layout_init) = true)
    (l_Layout_init : K.lookup f_Layout_init = some ⟨oc_Layout_init, od_Layout_init, .func (PySem.W.fnOf "__init__" "Layout.__init__" (defArgs s_Layout_init) (defBody s_Layout_init) (defScope s_Layout_init) .none kV_Layout_init dc_Layout_init pm_Layout_init an_Layout_init cd_Layout_init ct_Layout_init), sl_Layout_init⟩)
    (c_Layout_init : PySem.W.codeIn K cd_Layout_init "Layout.__init__" = true)
    (k_Layout_init : PySem.W.keepIn K (.ref f_Layout_init) = true)
    (fi_Layout_eq : PySem.W.findIn K (.ref C_Layout) "__eq__" = some (some (.ref f_Layout_eq)))
    (if_Layout_eq : PySem.W.isFn K (.ref f_Layout_eq) = true)
    (l_Layout_eq : K.lookup f_Layout_eq = some ⟨oc_Layout_eq, od_Layout_eq, .func (PySem.W.fnOf "__eq__" "Layout.__eq__" (defArgs s_Layout_eq) (defBody s_Layout_eq) (defScope s_Layout_eq) .none kV_Layout_eq dc_Layout_eq pm_Layout_eq an_Layout_eq cd_Layout_eq ct_Layout_eq), sl_Layout_eq⟩)
    (c_Layout_eq : PySem.W.codeIn K cd_Layout_eq "Layout.__eq__" = true)
    (k_Layout_eq : PySem.W.keepIn K (.ref f_Layout_eq) = true)
    (ne_Layout : PySem.W.findIn K (.ref C_Layout) "__ne__" = some (some (.builtin "object.__ne__")))
    (fi_Layout_str : PySem.W.findIn K (.ref C_Layout) "__str__" = some (some (.ref f_Layout_str)))
    (if_Layout_str : PySem.W.isFn K (.ref f_Layout_str) = true)
    (l_Layout_str : K.lookup f_Layout_str = some ⟨oc_Layout_str, od_Layout_str, .func (PySem.W.fnOf "__str__" "Layout.__str__" (defArgs s_Layout_str) (defBody s_Layout_str) (defScope s_Layout_str) .none kV_Layout_str dc_Layout_str pm_Layout_str an_Layout_str cd_Layout_str ct_Layout_str), sl_Layout_str⟩)
    (c_Layout_str : PySem.W.codeIn K cd_Layout_str "Layout.__str__" = true)
    (k_Layout_str : PySem.W.keepIn K (.ref f_Layout_str) = true)
    (sm_Layout_read : PySem.W.findCls K (.ref C_Layout) (.type "type") "read" = some (.get (.builtin "staticmethod.__get__") (.ref p_Layout_read) .none (.ref C_Layout)))
    (rc_Layout_read : PySem.W.recIn K p_Layout_read "staticmethod" = some (.ref f_Layout_read :: rs_Layout_read))
    (l_Layout_read : K.lookup f_Layout_read = some ⟨oc_Layout_read, od_Layout_read, .func (PySem.W.fnOf "read" "Layout.read" (defArgs s_Layout_read) (defBody s_Layout_read) (defScope s_Layout_read) .none kV_Layout_read dc_Layout_read pm_Layout_read an_Layout_read cd_Layout_read ct_Layout_read), sl_Layout_read⟩)
    (c_Layout_read : PySem.W.codeIn K cd_Layout_read "Layout.read" = true)
    (k_Layout_read : PySem.W.keepIn K (.ref f_Layout_read) = true)
    (rdC_Layout : PySem.W.readsIn K C_Layout (.type "type") = true)
    (gaC_Layout : PySem.W.specialIn K (.ref C_Layout) "__getattribute__" = some (some (.builtin "type.__getattribute__")))
    (sstr : PySem.W.subIn K (.ref C_Layout) (.type "str") = some false) :
    OB.LawG l w K CX0 10 63 "script" mg fa h := by
  have efa := hfa.symm.trans (PySem.W.mg_of X G a_law)
  cases efa
  have D_is_integer : Df K mg "is_integer" s_is_integer ["value"] f_is_integer _ := ⟨fun_mk (st := s_is_integer) l_is_integer c_is_integer k_is_integer, PySem.W.mg_of X G a_is_integer, (fun_mk (st := s_is_integer) l_is_integer c_is_integer k_is_integer).binds (ps := ["value"]) fun _ _ _ _ _ _ us hl => match us, hl with | [_], _ => rfl⟩
  have D_is_within : Df K mg "is_within" s_is_within ["value", "least", "most"] f_is_within _ := ⟨fun_mk (st := s_is_within) l_is_within c_is_within k_is_within, PySem.W.mg_of X G a_is_within, (fun_mk (st := s_is_within) l_is_within c_is_within k_is_within).binds (ps := ["value", "least", "most"]) fun _ _ _ _ _ _ us hl => match us, hl with | [_, _, _], _ => rfl⟩
  have D_is_list : Df K mg "is_list" s_is_list ["value"] f_is_list _ := ⟨fun_mk (st := s_is_list) l_is_list c_is_list k_is_list, PySem.W.mg_of X G a_is_list, (fun_mk (st := s_is_list) l_is_list c_is_list k_is_list).binds (ps := ["value"]) fun _ _ _ _ _ _ us hl => match us, hl with | [_], _ => rfl⟩
  have D_items_of : Df K mg "items_of" s_items_of ["text"] f_items_of _ := ⟨fun_mk (st := s_items_of) l_items_of c_items_of k_items_of, PySem.W.mg_of X G a_items_of, (fun_mk (st := s_items_of) l_items_of c_items_of k_items_of).binds (ps := ["text"]) fun _ _ _ _ _ _ us hl => match us, hl with | [_], _ => rfl⟩
  have D_integer_of : Df K mg "integer_of" s_integer_of ["item"] f_integer_of _ := ⟨fun_mk (st := s_integer_of) l_integer_of c_integer_of k_integer_of, PySem.W.mg_of X G a_integer_of, (fun_mk (st := s_integer_of) l_integer_of c_integer_of k_integer_of).binds (ps := ["item"]) fun _ _ _ _ _ _ us hl => match us, hl with | [_], _ => rfl⟩
  have D_item_at : Df K mg "item_at" s_item_at ["items", "at"] f_item_at _ := ⟨fun_mk (st := s_item_at) l_item_at c_item_at k_item_at, PySem.W.mg_of X G a_item_at, (fun_mk (st := s_item_at) l_item_at c_item_at k_item_at).binds (ps := ["items", "at"]) fun _ _ _ _ _ _ us hl => match us, hl with | [_, _], _ => rfl⟩
  have D_integer_at : Df K mg "integer_at" s_integer_at ["items", "at", "least", "most"] f_integer_at _ := ⟨fun_mk (st := s_integer_at) l_integer_at c_integer_at k_integer_at, PySem.W.mg_of X G a_integer_at, (fun_mk (st := s_integer_at) l_integer_at c_integer_at k_integer_at).binds (ps := ["items", "at", "least", "most"]) fun _ _ _ _ _ _ us hl => match us, hl with | [_, _, _, _], _ => rfl⟩
  have D_need_end : Df K mg "need_end" s_need_end ["items", "at"] f_need_end _ := ⟨fun_mk (st := s_need_end) l_need_end c_need_end k_need_end, PySem.W.mg_of X G a_need_end, (fun_mk (st := s_need_end) l_need_end c_need_end k_need_end).binds (ps := ["items", "at"]) fun _ _ _ _ _ _ us hl => match us, hl with | [_, _], _ => rfl⟩
  have D__is_meaning : Df K mg "_is_meaning" s__is_meaning ["value"] f__is_meaning _ := ⟨fun_mk (st := s__is_meaning) l__is_meaning c__is_meaning k__is_meaning, PySem.W.mg_of X G a__is_meaning, (fun_mk (st := s__is_meaning) l__is_meaning c__is_meaning k__is_meaning).binds (ps := ["value"]) fun _ _ _ _ _ _ us hl => match us, hl with | [_], _ => rfl⟩
  have D__meaning_at : Df K mg "_meaning_at" s__meaning_at ["items", "at"] f__meaning_at _ := ⟨fun_mk (st := s__meaning_at) l__meaning_at c__meaning_at k__meaning_at, PySem.W.mg_of X G a__meaning_at, (fun_mk (st := s__meaning_at) l__meaning_at c__meaning_at k__meaning_at).binds (ps := ["items", "at"]) fun _ _ _ _ _ _ us hl => match us, hl with | [_, _], _ => rfl⟩
  have D__law_mill : Df K mg "_law_mill" s__law_mill ["script"] f__law_mill _ := ⟨fun_mk (st := s__law_mill) l__law_mill c__law_mill k__law_mill, PySem.W.mg_of X G a__law_mill, (fun_mk (st := s__law_mill) l__law_mill c__law_mill k__law_mill).binds (ps := ["script"]) fun _ _ _ _ _ _ us hl => match us, hl with | [_], _ => rfl⟩
  have D__law_grind : Df K mg "_law_grind" s__law_grind ["mill", "many"] f__law_grind _ := ⟨fun_mk (st := s__law_grind) l__law_grind c__law_grind k__law_grind, PySem.W.mg_of X G a__law_grind, (fun_mk (st := s__law_grind) l__law_grind c__law_grind k__law_grind).binds (ps := ["mill", "many"]) fun _ _ _ _ _ _ us hl => match us, hl with | [_, _], _ => rfl⟩
  have D__law_one_of : Df K mg "_law_one_of" s__law_one_of ["mill", "some"] f__law_one_of _ := ⟨fun_mk (st := s__law_one_of) l__law_one_of c__law_one_of k__law_one_of, PySem.W.mg_of X G a__law_one_of, (fun_mk (st := s__law_one_of) l__law_one_of c__law_one_of k__law_one_of).binds (ps := ["mill", "some"]) fun _ _ _ _ _ _ us hl => match us, hl with | [_, _], _ => rfl⟩
  have D__law_integer : Df K mg "_law_integer" s__law_integer ["item"] f__law_integer _ := ⟨fun_mk (st := s__law_integer) l__law_integer c__law_integer k__law_integer, PySem.W.mg_of X G a__law_integer, (fun_mk (st := s__law_integer) l__law_integer c__law_integer k__law_integer).binds (ps := ["item"]) fun _ _ _ _ _ _ us hl => match us, hl with | [_], _ => rfl⟩
  have D__law_within : Df K mg "_law_within" s__law_within ["item", "least", "most"] f__law_within _ := ⟨fun_mk (st := s__law_within) l__law_within c__law_within k__law_within, PySem.W.mg_of X G a__law_within, (fun_mk (st := s__law_within) l__law_within c__law_within k__law_within).binds (ps := ["item", "least", "most"]) fun _ _ _ _ _ _ us hl => match us, hl with | [_, _, _], _ => rfl⟩
  have D__law_stop : Df K mg "_law_stop" s__law_stop ["items"] f__law_stop _ := ⟨fun_mk (st := s__law_stop) l__law_stop c__law_stop k__law_stop, PySem.W.mg_of X G a__law_stop, (fun_mk (st := s__law_stop) l__law_stop c__law_stop k__law_stop).binds (ps := ["items"]) fun _ _ _ _ _ _ us hl => match us, hl with | [_], _ => rfl⟩
  have D__law_heard : Df K mg "_law_heard" s__law_heard ["text"] f__law_heard _ := ⟨fun_mk (st := s__law_heard) l__law_heard c__law_heard k__law_heard, PySem.W.mg_of X G a__law_heard, (fun_mk (st := s__law_heard) l__law_heard c__law_heard k__law_heard).binds (ps := ["text"]) fun _ _ _ _ _ _ us hl => match us, hl with | [_], _ => rfl⟩
  have D__law_bent : Df K mg "_law_bent" s__law_bent ["mill", "items"] f__law_bent _ := ⟨fun_mk (st := s__law_bent) l__law_bent c__law_bent k__law_bent, PySem.W.mg_of X G a__law_bent, (fun_mk (st := s__law_bent) l__law_bent c__law_bent k__law_bent).binds (ps := ["mill", "items"]) fun _ _ _ _ _ _ us hl => match us, hl with | [_, _], _ => rfl⟩
  have FI_BadLayout := fun_mk (st := s_init_BadLayout) li_BadLayout ci_BadLayout ki_BadLayout
  have BI_BadLayout := FI_BadLayout.binds (ps := ["self", "part"]) fun _ _ _ _ _ _ us hl => match us, hl with | [_, _], _ => rfl
  have O_BadLayout : OexC K C_BadLayout := ⟨⟨_, _, _, _, _, _, _, _, _, _, _, _, _, _, _, x_BadLayout, by rfl⟩, sa_BadLayout, e_BadLayout, t_BadLayout, k_BadLayout⟩
  have XF_BadLayout : XfC K C_BadLayout := ⟨ga_BadLayout, gg_BadLayout, e_BadLayout, hd_BadLayout⟩
  have EC_BadLayout : ExcC K C_BadLayout := ⟨ga_BadLayout, gg_BadLayout, e_BadLayout, hd_BadLayout, ha_BadLayout, spn, tkn, hm_BadLayout⟩
  have EX_BadLayout : PySem.W.exmOne K (.ref C_BadLayout) (.ref CF) = some true := PySem.W.exm_ref eF dF tF sf_BadLayout
  have kit_BadLayout_BadLayout : PySem.W.kitOne K (.ref C_BadLayout) (.ref C_BadLayout) = some true := kit_sub is_BadLayout t_BadLayout sub_BadLayout_BadLayout sub_BadLayout_BadLayout
  have kit_BadText_BadLayout : PySem.W.kitOne K (.ref C_BadText) (.ref C_BadLayout) = some false := kit_sub is_BadLayout t_BadLayout sub_BadLayout_BadLayout sub_BadText_BadLayout
  have kz_BadLayout : PySem.W.kitOne K (.type "NoneType") (.ref C_BadLayout) = some false := kit_sub is_BadLayout t_BadLayout sub_BadLayout_BadLayout z_BadLayout
  have g_BadLayout : mg "BadLayout" = some (.ref C_BadLayout) := PySem.W.mg_of X G a_BadLayout
  have FI_BadText := fun_mk (st := s_init_BadText) li_BadText ci_BadText ki_BadText
  have BI_BadText := FI_BadText.binds (ps := ["self", "line", "item"]) fun _ _ _ _ _ _ us hl => match us, hl with | [_, _, _], _ => rfl
  have O_BadText : OexC K C_BadText := ⟨⟨_, _, _, _, _, _, _, _, _, _, _, _, _, _, _, x_BadText, by rfl⟩, sa_BadText, e_BadText, t_BadText, k_BadText⟩
  have XF_BadText : XfC K C_BadText := ⟨ga_BadText, gg_BadText, e_BadText, hd_BadText⟩
  have EC_BadText : ExcC K C_BadText := ⟨ga_BadText, gg_BadText, e_BadText, hd_BadText, ha_BadText, spn, tkn, hm_BadText⟩
  have EX_BadText : PySem.W.exmOne K (.ref C_BadText) (.ref CF) = some true := PySem.W.exm_ref eF dF tF sf_BadText
  have kit_BadLayout_BadText : PySem.W.kitOne K (.ref C_BadLayout) (.ref C_BadText) = some false := kit_sub is_BadText t_BadText sub_BadText_BadText sub_BadLayout_BadText
  have kit_BadText_BadText : PySem.W.kitOne K (.ref C_BadText) (.ref C_BadText) = some true := kit_sub is_BadText t_BadText sub_BadText_BadText sub_BadText_BadText
  have kz_BadText : PySem.W.kitOne K (.type "NoneType") (.ref C_BadText) = some false := kit_sub is_BadText t_BadText sub_BadText_BadText z_BadText
  have g_BadText : mg "BadText" = some (.ref C_BadText) := PySem.W.mg_of X G a_BadText
  have F_Layout_init := fun_mk (st := s_Layout_init) l_Layout_init c_Layout_init k_Layout_init
  have b_Layout_init := F_Layout_init.binds (ps := ["self", "bits", "means"]) fun _ _ _ _ _ _ us hl => match us, hl with | [_, _, _], _ => rfl
  have F_Layout_eq := fun_mk (st := s_Layout_eq) l_Layout_eq c_Layout_eq k_Layout_eq
  have b_Layout_eq := F_Layout_eq.binds (ps := ["self", "other"]) fun _ _ _ _ _ _ us hl => match us, hl with | [_, _], _ => rfl
  have EQ_Layout : OwnEqC K C_Layout f_Layout_eq := ⟨fi_Layout_eq, if_Layout_eq, ne_Layout, hmC_Layout⟩
  have F_Layout_str := fun_mk (st := s_Layout_str) l_Layout_str c_Layout_str k_Layout_str
  have b_Layout_str := F_Layout_str.binds (ps := ["self"]) fun _ _ _ _ _ _ us hl => match us, hl with | [_], _ => rfl
  have ST_Layout : OwnStrC K C_Layout f_Layout_str := ⟨fi_Layout_str, if_Layout_str⟩
  have F_Layout_read := fun_mk (st := s_Layout_read) l_Layout_read c_Layout_read k_Layout_read
  have b_Layout_read := F_Layout_read.binds (ps := ["text"]) fun _ _ _ _ _ _ us hl => match us, hl with | [_], _ => rfl
  have SM_Layout_read : CStat K C_Layout (.type "type") "read" p_Layout_read f_Layout_read := ⟨sm_Layout_read, ⟨_, rc_Layout_read⟩, k_Layout_read⟩
  have RD_Layout : CRead K C_Layout (.type "type") := ⟨rdC_Layout, gaC_Layout⟩
  have O_Layout : OwnC K mg "Layout" C_Layout f_Layout_init := ⟨⟨pg_Layout, hdC_Layout, po_Layout, saC_Layout⟩, PySem.W.mg_of X G aC_Layout, ⟨mkC_Layout, fi_Layout_init, if_Layout_init, kcC_Layout⟩, haC_Layout, spn, tkn, hmC_Layout, kit_sub isC_Layout tyC_Layout sfC_Layout sfC_Layout, fun n hn => by
    simp only [List.mem_cons, List.not_mem_nil, or_false] at hn
    rcases hn with rfl | rfl | rfl | rfl | rfl | rfl | rfl
    · exact kit_sub isC_Layout tyC_Layout sfC_Layout suNoneType_Layout
    · exact kit_sub isC_Layout tyC_Layout sfC_Layout suint_Layout
    · exact kit_sub isC_Layout tyC_Layout sfC_Layout subool_Layout
    · exact kit_sub isC_Layout tyC_Layout sfC_Layout sustr_Layout
    · exact kit_sub isC_Layout tyC_Layout sfC_Layout sulist_Layout
    · exact kit_sub isC_Layout tyC_Layout sfC_Layout sutuple_Layout
    · exact kit_sub isC_Layout tyC_Layout sfC_Layout sudict_Layout
    , sutuple_Layout⟩
  have T : Blt mg := ⟨⟨_, PySem.W.mg_of X G a_MOST_DIGITS⟩, ⟨_, PySem.W.mg_of X G a_MOST_BITS⟩, ⟨_, PySem.W.mg_of X G a_MOST_STATE⟩, ⟨_, PySem.W.mg_of X G a_NOTHING⟩, PySem.W.mg_none_of X G n_abs, PySem.W.mg_none_of X G n_all, PySem.W.mg_none_of X G n_bool, PySem.W.mg_none_of X G n_int, PySem.W.mg_none_of X G n_isinstance, PySem.W.mg_none_of X G n_len, PySem.W.mg_none_of X G n_list, PySem.W.mg_none_of X G n_min, PySem.W.mg_none_of X G n_range, PySem.W.mg_none_of X G n_str, PySem.W.mg_none_of X G n_tuple⟩
  refine ⟨PySem.W.fnOf "law" "law" (defArgs s_law) (defBody s_law) (defScope s_law) .none kV_law dc_law pm_law an_law cd_law ct_law, [], spLaw K , ⟨fun p hp => ?_, fun p hp => ?_, fun p hp => ?_⟩, fun s u => .of_eq rfl, fun H a ns hl _ hP hS => ⟨a, ns, rfl, hS, hl, fun _ => rfl⟩, fun base hK hG hTB => ?_⟩
  · exact absurd hp List.not_mem_nil
  · exact absurd hp List.not_mem_nil
  · exact absurd hp List.not_mem_nil
  · skip
    have R_BadLayout : Err l.prog w K mg base "BadLayout" "part" C_BadLayout fi_BadLayout _ := ⟨O_BadLayout, i_BadLayout, ti_BadLayout, ok_init1 FI_BadLayout sc_init_BadLayout rfl (.inl rfl) (.inl rfl), BI_BadLayout, g_BadLayout, no_BadLayout_part⟩
    have R_BadText : Err2 l.prog w K mg base "BadText" "line" "item" C_BadText fi_BadText _ := ⟨O_BadText, i_BadText, ti_BadText, ok_init2 FI_BadText sc_init_BadText (by decide +kernel) rfl (.inl rfl) (.inl rfl) (.inl rfl), BI_BadText, g_BadText, no_BadText_line, no_BadText_item⟩
    have Z : Kinds K mg C_BadText := ⟨g_BadText, XF_BadText, PySem.W.exm_ref e_BadText hd_BadText t_BadText sub_BadText_BadText, no_BadText_line, no_BadText_item⟩
    have G_is_integer := ok_is_integer (P := l.prog) (w := w) (base := base) D_is_integer.F T
    have G_is_within := ok_is_within (P := l.prog) (w := w) (base := base) D_is_within.F D_is_integer T
    have G__law_mill := ok__law_mill (P := l.prog) (w := w) (base := base) D__law_mill.F T
    have G__law_grind := ok__law_grind (P := l.prog) (w := w) (base := base) D__law_grind.F T
    have G__law_one_of := ok__law_one_of (P := l.prog) (w := w) (base := base) D__law_one_of.F T D__law_grind
    have G_items_of := ok_items_of (P := l.prog) (w := w) (base := base) D_items_of.F T R_BadText
    have G_integer_of := ok_integer_of (P := l.prog) (w := w) (base := base) D_integer_of.F T
    have G_item_at := ok_item_at (P := l.prog) (w := w) (base := base) D_item_at.F T R_BadText
    have G_integer_at := ok_integer_at (P := l.prog) (w := w) (base := base) D_integer_at.F T D_integer_of D_item_at D_is_within D_is_integer R_BadText
    have G_need_end := ok_need_end (P := l.prog) (w := w) (base := base) D_need_end.F T R_BadText
    have G_is_list := ok_is_list (P := l.prog) (w := w) (base := base) D_is_list.F T
    have G__is_meaning := ok__is_meaning (P := l.prog) (w := w) (base := base) D__is_meaning.F T D_is_within D_is_integer
    have G_Layout_init := ok_Layout_init (P := l.prog) (w := w) (base := base) F_Layout_init T O_Layout nC_Layout_bits nC_Layout_means D_is_within D_is_integer D_is_list D__is_meaning
    have G_Layout_eq := ok_Layout_eq (P := l.prog) (w := w) (base := base) F_Layout_eq T O_Layout nC_Layout_bits nC_Layout_means
    have G_Layout_str := ok_Layout_str (P := l.prog) (w := w) (base := base) F_Layout_str T O_Layout nC_Layout_bits nC_Layout_means
    have G__meaning_at := ok__meaning_at (P := l.prog) (w := w) (base := base) D__meaning_at.F T D_item_at D_integer_at G_item_at G_integer_at
    have G_Layout_read := ok_Layout_read (P := l.prog) (w := w) (base := base) F_Layout_read T O_Layout b_Layout_init G_Layout_init D_items_of G_items_of D_integer_at G_integer_at D_need_end G_need_end D__meaning_at G__meaning_at
    have G__law_integer := ok__law_integer (P := l.prog) (w := w) (base := base) D__law_integer.F T
    have G__law_within := ok__law_within (P := l.prog) (w := w) (base := base) D__law_within.F T D__law_integer
    have G__law_stop := ok__law_stop (P := l.prog) (w := w) (base := base) D__law_stop.F T D__law_within D__law_integer
    have G__law_bent := ok__law_bent (P := l.prog) (w := w) (base := base) D__law_bent.F T D__law_grind D__law_one_of
    have G__law_heard := ok__law_heard (P := l.prog) (w := w) (base := base) D__law_heard.F T Z O_Layout RD_Layout SM_Layout_read b_Layout_read G_Layout_read
    exact ok_law T l_law c_law Z sstr O_Layout nC_Layout_bits nC_Layout_means D__law_mill G__law_mill D__law_grind D__law_one_of D__law_bent G__law_bent D__law_stop G__law_stop D__law_heard G__law_heard F_Layout_init b_Layout_init G_Layout_init EQ_Layout b_Layout_eq G_Layout_eq ST_Layout b_Layout_str G_Layout_str F_Layout_read RD_Layout SM_Layout_read G_Layout_read
end K12
open PySem PySem.W PyProof.Rows
set_option maxRecDepth 100000 in
set_option maxHeartbeats 0 in
theorem PySem.Challenge.cw_oneflip_k12_texts_of_layouts_bent_holds : PySem.Challenge.rw_oneflip_k12_texts_of_layouts_bent.Holds := by
  w_on; o_law; k_head; (case hw => w_witness2)
  k_fill
  refine OB.walk_G (l := PySem.Challenge.rw_oneflip_k12_texts_of_layouts_bent) (n := 63) (k := 10) (x := "script") (CX := fun _ => L2.CX0) rfl (by decide) rfl ⟨rfl, by decide, by decide⟩ (fun w h Y => PySem.W.kIn_of Y) ?F (fun _ _ _ _ _ z => z)
  case F =>
    intro w mg fa h Y KX G hmg
    refine' K12.all_mk KX G hmg ?a_is_integer ?l_is_integer ?c_is_integer ?k_is_integer ?a_is_within ?l_is_within ?c_is_within ?k_is_within ?a_is_list ?l_is_list ?c_is_list ?k_is_list ?a_items_of ?l_items_of ?c_items_of ?k_items_of ?a_integer_of ?l_integer_of ?c_integer_of ?k_integer_of ?a_item_at ?l_item_at ?c_item_at ?k_item_at ?a_integer_at ?l_integer_at ?c_integer_at ?k_integer_at ?a_need_end ?l_need_end ?c_need_end ?k_need_end ?a__is_meaning ?l__is_meaning ?c__is_meaning ?k__is_meaning ?a__meaning_at ?l__meaning_at ?c__meaning_at ?k__meaning_at ?a__law_mill ?l__law_mill ?c__law_mill ?k__law_mill ?a__law_grind ?l__law_grind ?c__law_grind ?k__law_grind ?a__law_one_of ?l__law_one_of ?c__law_one_of ?k__law_one_of ?a__law_integer ?l__law_integer ?c__law_integer ?k__law_integer ?a__law_within ?l__law_within ?c__law_within ?k__law_within ?a__law_stop ?l__law_stop ?c__law_stop ?k__law_stop ?a__law_heard ?l__law_heard ?c__law_heard ?k__law_heard ?a__law_bent ?l__law_bent ?c__law_bent ?k__law_bent ?a_law ?l_law ?c_law ?k_law ?aF ?eF ?dF ?tF ?a_BadLayout ?x_BadLayout ?sa_BadLayout ?e_BadLayout ?t_BadLayout ?k_BadLayout ?i_BadLayout ?ti_BadLayout ?li_BadLayout ?ci_BadLayout ?ki_BadLayout ?no_BadLayout_part ?ga_BadLayout ?gg_BadLayout ?hd_BadLayout ?ha_BadLayout ?hm_BadLayout ?sf_BadLayout ?is_BadLayout ?z_BadLayout ?a_BadText ?x_BadText ?sa_BadText ?e_BadText ?t_BadText ?k_BadText ?i_BadText ?ti_BadText ?li_BadText ?ci_BadText ?ki_BadText ?no_BadText_line ?no_BadText_item ?ga_BadText ?gg_BadText ?hd_BadText ?ha_BadText ?hm_BadText ?sf_BadText ?is_BadText ?z_BadText ?sub_BadLayout_BadLayout ?sub_BadLayout_BadText ?sub_BadText_BadLayout ?sub_BadText_BadText ?spn ?tkn ?a_MOST_DIGITS ?a_MOST_BITS ?a_MOST_STATE ?a_NOTHING ?n_abs ?n_all ?n_bool ?n_int ?n_isinstance ?n_len ?n_list ?n_min ?n_range ?n_str ?n_tuple ?aC_Layout ?pg_Layout ?hdC_Layout ?po_Layout ?saC_Layout ?mkC_Layout ?kcC_Layout ?haC_Layout ?hmC_Layout ?isC_Layout ?tyC_Layout ?sfC_Layout ?suNoneType_Layout ?suint_Layout ?subool_Layout ?sustr_Layout ?sulist_Layout ?sutuple_Layout ?sudict_Layout ?nC_Layout_bits ?nC_Layout_means ?fi_Layout_init ?if_Layout_init ?l_Layout_init ?c_Layout_init ?k_Layout_init ?fi_Layout_eq ?if_Layout_eq ?l_Layout_eq ?c_Layout_eq ?k_Layout_eq ?ne_Layout ?fi_Layout_str ?if_Layout_str ?l_Layout_str ?c_Layout_str ?k_Layout_str ?sm_Layout_read ?rc_Layout_read ?l_Layout_read ?c_Layout_read ?k_Layout_read ?rdC_Layout ?gaC_Layout ?sstr
    (case a_is_integer => k_is)
    (case l_is_integer => k_is)
    (case c_is_integer => k_is)
    (case k_is_integer => k_is)
    (case a_is_within => k_is)
    (case l_is_within => k_is)
    (case c_is_within => k_is)
    (case k_is_within => k_is)
    (case a_is_list => k_is)
    (case l_is_list => k_is)
    (case c_is_list => k_is)
    (case k_is_list => k_is)
    (case a_items_of => k_is)
    (case l_items_of => k_is)
    (case c_items_of => k_is)
    (case k_items_of => k_is)
    (case a_integer_of => k_is)
    (case l_integer_of => k_is)
    (case c_integer_of => k_is)
    (case k_integer_of => k_is)
    (case a_item_at => k_is)
    (case l_item_at => k_is)
    (case c_item_at => k_is)
    (case k_item_at => k_is)
    (case a_integer_at => k_is)
    (case l_integer_at => k_is)
    (case c_integer_at => k_is)
    (case k_integer_at => k_is)
    (case a_need_end => k_is)
    (case l_need_end => k_is)
    (case c_need_end => k_is)
    (case k_need_end => k_is)
    (case a__is_meaning => k_is)
    (case l__is_meaning => k_is)
    (case c__is_meaning => k_is)
    (case k__is_meaning => k_is)
    (case a__meaning_at => k_is)
    (case l__meaning_at => k_is)
    (case c__meaning_at => k_is)
    (case k__meaning_at => k_is)
    (case a__law_mill => k_is)
    (case l__law_mill => k_is)
    (case c__law_mill => k_is)
    (case k__law_mill => k_is)
    (case a__law_grind => k_is)
    (case l__law_grind => k_is)
    (case c__law_grind => k_is)
    (case k__law_grind => k_is)
    (case a__law_one_of => k_is)
    (case l__law_one_of => k_is)
    (case c__law_one_of => k_is)
    (case k__law_one_of => k_is)
    (case a__law_integer => k_is)
    (case l__law_integer => k_is)
    (case c__law_integer => k_is)
    (case k__law_integer => k_is)
    (case a__law_within => k_is)
    (case l__law_within => k_is)
    (case c__law_within => k_is)
    (case k__law_within => k_is)
    (case a__law_stop => k_is)
    (case l__law_stop => k_is)
    (case c__law_stop => k_is)
    (case k__law_stop => k_is)
    (case a__law_heard => k_is)
    (case l__law_heard => k_is)
    (case c__law_heard => k_is)
    (case k__law_heard => k_is)
    (case a__law_bent => k_is)
    (case l__law_bent => k_is)
    (case c__law_bent => k_is)
    (case k__law_bent => k_is)
    (case a_law => k_is)
    (case l_law => k_is)
    (case c_law => k_is)
    (case k_law => k_is)
    (case aF => k_is)
    (case eF => k_is)
    (case dF => k_is)
    (case tF => k_is)
    (case a_BadLayout => k_is)
    (case x_BadLayout => k_is)
    (case sa_BadLayout => k_is)
    (case e_BadLayout => k_is)
    (case t_BadLayout => k_is)
    (case k_BadLayout => k_is)
    (case i_BadLayout => k_is)
    (case ti_BadLayout => k_is)
    (case li_BadLayout => k_is)
    (case ci_BadLayout => k_is)
    (case ki_BadLayout => k_is)
    (case no_BadLayout_part => k_is)
    (case ga_BadLayout => k_is)
    (case gg_BadLayout => k_is)
    (case hd_BadLayout => k_is)
    (case ha_BadLayout => k_is)
    (case hm_BadLayout => k_is)
    (case sf_BadLayout => k_is)
    (case is_BadLayout => k_is)
    (case z_BadLayout => k_is)
    (case a_BadText => k_is)
    (case x_BadText => k_is)
    (case sa_BadText => k_is)
    (case e_BadText => k_is)
    (case t_BadText => k_is)
    (case k_BadText => k_is)
    (case i_BadText => k_is)
    (case ti_BadText => k_is)
    (case li_BadText => k_is)
    (case ci_BadText => k_is)
    (case ki_BadText => k_is)
    (case no_BadText_line => k_is)
    (case no_BadText_item => k_is)
    (case ga_BadText => k_is)
    (case gg_BadText => k_is)
    (case hd_BadText => k_is)
    (case ha_BadText => k_is)
    (case hm_BadText => k_is)
    (case sf_BadText => k_is)
    (case is_BadText => k_is)
    (case z_BadText => k_is)
    (case sub_BadLayout_BadLayout => k_is)
    (case sub_BadLayout_BadText => k_is)
    (case sub_BadText_BadLayout => k_is)
    (case sub_BadText_BadText => k_is)
    (case spn => k_is)
    (case tkn => k_is)
    (case a_MOST_DIGITS => k_is)
    (case a_MOST_BITS => k_is)
    (case a_MOST_STATE => k_is)
    (case a_NOTHING => k_is)
    (case n_abs => k_is)
    (case n_all => k_is)
    (case n_bool => k_is)
    (case n_int => k_is)
    (case n_isinstance => k_is)
    (case n_len => k_is)
    (case n_list => k_is)
    (case n_min => k_is)
    (case n_range => k_is)
    (case n_str => k_is)
    (case n_tuple => k_is)
    (case aC_Layout => k_is)
    (case pg_Layout => k_is)
    (case hdC_Layout => k_is)
    (case po_Layout => k_is)
    (case saC_Layout => k_is)
    (case mkC_Layout => k_is)
    (case kcC_Layout => k_is)
    (case haC_Layout => k_is)
    (case hmC_Layout => k_is)
    (case isC_Layout => k_is)
    (case tyC_Layout => k_is)
    (case sfC_Layout => k_is)
    (case suNoneType_Layout => k_is)
    (case suint_Layout => k_is)
    (case subool_Layout => k_is)
    (case sustr_Layout => k_is)
    (case sulist_Layout => k_is)
    (case sutuple_Layout => k_is)
    (case sudict_Layout => k_is)
    (case nC_Layout_bits => k_is)
    (case nC_Layout_means => k_is)
    (case fi_Layout_init => k_is)
    (case if_Layout_init => k_is)
    (case l_Layout_init => k_is)
    (case c_Layout_init => k_is)
    (case k_Layout_init => k_is)
    (case fi_Layout_eq => k_is)
    (case if_Layout_eq => k_is)
    (case l_Layout_eq => k_is)
    (case c_Layout_eq => k_is)
    (case k_Layout_eq => k_is)
    (case ne_Layout => k_is)
    (case fi_Layout_str => k_is)
    (case if_Layout_str => k_is)
    (case l_Layout_str => k_is)
    (case c_Layout_str => k_is)
    (case k_Layout_str => k_is)
    (case sm_Layout_read => k_is)
    (case rc_Layout_read => k_is)
    (case l_Layout_read => k_is)
    (case c_Layout_read => k_is)
    (case k_Layout_read => k_is)
    (case rdC_Layout => k_is)
    (case gaC_Layout => k_is)
    (case sstr => k_is)
