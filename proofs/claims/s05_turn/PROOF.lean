import PyProof.Rows.All
import KE.OsGo
import KE.OsMore
import PySem.Challenge.RW_longreckon_s05_turn
open PySem PySem.W
set_option Elab.async false
set_option maxHeartbeats 4000000
namespace My
def BW : Int := 18446744073709551616
def numOf (l : List Int) : Int := l.foldr (fun x n => n * 18446744073709551616 + x) 0
def InW (l : List Int) : Prop := ∀ x ∈ l, 0 ≤ x ∧ x ≤ 18446744073709551615
def rowI (k : Nat) (n : Int) : List Int := (List.range k).map fun i => n / 2 ^ (64 * i) % 18446744073709551616

theorem num_nat : ∀ (l : List Int), InW l → numOf l = ((Sv22.valueOf (Sv22Neutral.nats l) : Nat) : Int)
  | [], _ => rfl
  | x :: r, h => by
    have hx := h x (List.mem_cons_self ..)
    have ih := num_nat r (fun y hy => h y (List.mem_cons_of_mem _ hy))
    have e1 : numOf (x :: r) = numOf r * 18446744073709551616 + x := rfl
    have e2 : Sv22.valueOf (Sv22Neutral.nats (x :: r)) = x.toNat % 2 ^ 64 + 2 ^ 64 * Sv22.valueOf (Sv22Neutral.nats r) := rfl
    rw [e1, e2, ih]
    have e3 : (2 : Nat) ^ 64 = 18446744073709551616 := by decide
    rw [e3]
    omega
theorem value_lt : ∀ (l : List Nat), Sv22.valueOf l < 2 ^ (64 * l.length)
  | [] => by decide
  | x :: r => by
    have ih := value_lt r
    have e2 : Sv22.valueOf (x :: r) = x % 2 ^ 64 + 2 ^ 64 * Sv22.valueOf r := rfl
    have e4 : 64 * (x :: r).length = 64 * r.length + 64 := by simp only [List.length_cons]; omega
    rw [e2, e4, Nat.pow_add]
    have hx : x % 2 ^ 64 < 2 ^ 64 := Nat.mod_lt _ (by decide)
    have e3 : (2 : Nat) ^ 64 = 18446744073709551616 := by decide
    rw [e3] at *
    omega
theorem num_nonneg {l : List Int} (h : InW l) : 0 ≤ numOf l := by
  rw [num_nat l h]; exact Int.natCast_nonneg _
theorem nats_len (l : List Int) : (Sv22Neutral.nats l).length = l.length := by unfold Sv22Neutral.nats; simp
theorem num_natAbs_lt {l : List Int} (h : InW l) : (numOf l).natAbs < 2 ^ (64 * l.length) := by
  rw [num_nat l h, Int.natAbs_natCast]
  have := value_lt (Sv22Neutral.nats l)
  rw [nats_len] at this
  exact this
theorem row_nat (k n : Nat) : rowI k (n : Int) = (Sv22.wordsOf k n).map (fun (x : Nat) => (x : Int)) := by
  unfold rowI Sv22.wordsOf
  rw [List.map_map]
  refine List.map_congr_left fun i _ => ?_
  show (n : Int) / 2 ^ (64 * i) % 18446744073709551616 = ((n / 2 ^ (64 * i) % 2 ^ 64 : Nat) : Int)
  have e3 : (2 : Nat) ^ 64 = 18446744073709551616 := by decide
  rw [e3, Int.natCast_emod, Int.natCast_ediv, Int.natCast_pow]
  rfl
theorem row_succ (k : Nat) (n : Int) : rowI (k + 1) n = rowI k n ++ [n / 2 ^ (64 * k) % 18446744073709551616] := by
  unfold rowI
  rw [List.range_succ, List.map_append]
  rfl
theorem row_len (k : Nat) (n : Int) : (rowI k n).length = k := by unfold rowI; simp
theorem next_div (k : Nat) (n : Int) : n / 2 ^ (64 * k) / 18446744073709551616 = n / 2 ^ (64 * (k + 1)) := by
  have e : (2 : Int) ^ (64 * (k + 1)) = 2 ^ (64 * k) * 18446744073709551616 := by
    have : 64 * (k + 1) = 64 * k + 64 := by omega
    rw [this, Int.pow_add]
    rfl
  rw [e]
  exact Int.ediv_ediv_of_nonneg (Int.pow_nonneg (by decide))
end My
namespace My
structure RowIs (number : Int) (row : List Int) (rest : Int) : Prop where
  eq : row = rowI row.length number
  rst : rest = number / 2 ^ (64 * row.length)
theorem row_start (number : Int) : RowIs number [] number := ⟨rfl, by
  show number = number / 2 ^ 0
  rw [Int.pow_zero, Int.ediv_one]⟩
theorem row_turn {number rest : Int} {row : List Int} (h : RowIs number row rest) : RowIs number (row ++ [rest % 18446744073709551616]) (rest / 18446744073709551616) := by
  have l : (row ++ [rest % 18446744073709551616]).length = row.length + 1 := by simp
  refine ⟨?_, ?_⟩
  · rw [l, row_succ, ← h.eq, ← h.rst]
  · rw [l, ← next_div, ← h.rst]
theorem row_end {number rest : Int} {row : List Int} {k : Nat} (h : RowIs number row rest) (hl : row.length = k) : row = rowI k number := by
  rw [← hl]; exact h.eq
theorem size_true {n : Nat} (h1 : 1 ≤ n) (h2 : n ≤ 64) : Sv22.size (n : Int) = true := by
  unfold Sv22.size Sv22.within
  simp only [Bool.and_eq_true, decide_eq_true_eq]
  omega
theorem size_false {n : Nat} (h1 : n = 0) : Sv22.size (n : Int) = false := by
  subst h1; rfl
def ans (y : Sv22.Ans) : List Int := y.v :: y.l.map fun (x : Nat) => (x : Int)
theorem mul_eq (a b : List Int) : PySv22.mul a b = ans (if (Sv22.size (a.length : Int) && Sv22.size (b.length : Int)) = false then Sv22.ok (-2)
    else ⟨0, Sv22.wordsOf ((Sv22Neutral.nats a).length + (Sv22Neutral.nats b).length) (Sv22.valueOf (Sv22Neutral.nats a) * Sv22.valueOf (Sv22Neutral.nats b))⟩) := rfl
theorem div_eq (a b : List Int) : PySv22.div a b = ans (if (Sv22.size (a.length : Int) && Sv22.size (b.length : Int)) = false ∨ Sv22.valueOf (Sv22Neutral.nats b) = 0 then Sv22.ok (-2)
    else ⟨0, Sv22.wordsOf (Sv22Neutral.nats a).length (Sv22.valueOf (Sv22Neutral.nats a) / Sv22.valueOf (Sv22Neutral.nats b)) ++ Sv22.wordsOf (Sv22Neutral.nats b).length (Sv22.valueOf (Sv22Neutral.nats a) % Sv22.valueOf (Sv22Neutral.nats b))⟩) := rfl
theorem mul_val {a b : List Int} (ha : InW a) (hb : InW b) (a1 : 1 ≤ a.length) (a2 : a.length ≤ 64) (b1 : 1 ≤ b.length) (b2 : b.length ≤ 64) :
    PySv22.mul a b = 0 :: rowI (a.length + b.length) (numOf a * numOf b) := by
  rw [mul_eq, size_true a1 a2, size_true b1 b2, num_nat a ha, num_nat b hb, ← Int.natCast_mul, row_nat, nats_len, nats_len]
  rfl
theorem mul_bad {a b : List Int} (h : a.length = 0 ∨ b.length = 0) : PySv22.mul a b = [-2] := by
  rw [mul_eq, if_pos]
  · rfl
  · rcases h with h | h
    · rw [size_false h]; rfl
    · rw [size_false h, Bool.and_false]
theorem div_val {a b : List Int} (ha : InW a) (hb : InW b) (a1 : 1 ≤ a.length) (a2 : a.length ≤ 64) (b1 : 1 ≤ b.length) (b2 : b.length ≤ 64) (nz : numOf b ≠ 0) :
    PySv22.div a b = 0 :: (rowI a.length (numOf a / numOf b) ++ rowI b.length (numOf a % numOf b)) := by
  have hz : ¬ Sv22.valueOf (Sv22Neutral.nats b) = 0 := by
    intro h; rw [num_nat b hb, h] at nz; exact nz rfl
  rw [div_eq, size_true a1 a2, size_true b1 b2, num_nat a ha, num_nat b hb, ← Int.natCast_ediv, ← Int.natCast_emod, row_nat, row_nat, nats_len, nats_len, if_neg (by simp [hz])]
  unfold ans
  rw [List.map_append]
theorem div_bad {a b : List Int} (h : a.length = 0 ∨ b.length = 0) : PySv22.div a b = [-2] := by
  rw [div_eq, if_pos]
  · rfl
  · rcases h with h | h
    · rw [size_false h]; exact .inl rfl
    · rw [size_false h, Bool.and_false]; exact .inl rfl
theorem div_zero {a b : List Int} (hb : InW b) (z : numOf b = 0) : PySv22.div a b = [-2] := by
  rw [div_eq, if_pos]
  · rfl
  · right
    rw [num_nat b hb] at z
    exact Int.ofNat.inj z
end My
namespace My
/-! Loops: the common divisor. -/
structure GcdIs (one other found rest : Int) : Prop where
  f0 : 0 ≤ found
  r0 : 0 ≤ rest
  eq : Int.gcd found rest = Int.gcd one other
theorem g_start {one other : Int} (h1 : 0 ≤ one) (h2 : 0 ≤ other) : GcdIs one other one other := ⟨h1, h2, rfl⟩
theorem g_turn {one other found rest left : Int} (h : GcdIs one other found rest) (hm : left = found % rest) (hz : ¬ rest = 0) : GcdIs one other rest left := by
  obtain ⟨f0, r0, eq⟩ := h
  refine ⟨r0, by rw [hm]; exact Int.emod_nonneg _ hz, ?_⟩
  rw [← eq, hm]
  obtain ⟨f, rfl⟩ : ∃ k : Nat, found = (k : Int) := ⟨found.toNat, by omega⟩
  obtain ⟨r, rfl⟩ : ∃ k : Nat, rest = (k : Int) := ⟨rest.toNat, by omega⟩
  rw [← Int.natCast_emod, Int.gcd_natCast_natCast, Int.gcd_natCast_natCast, Nat.gcd_comm f r, Nat.gcd_rec r f, Nat.gcd_comm]
theorem g_less {one other found rest left : Int} (h : GcdIs one other found rest) (hm : left = found % rest) (hz : ¬ rest = 0) : left.toNat < rest.toNat := by
  have := h.r0
  have h1 : found % rest < rest := Int.emod_lt_of_pos _ (by omega)
  have h2 : 0 ≤ found % rest := Int.emod_nonneg _ hz
  omega
theorem g_end {one other found rest : Int} (h : GcdIs one other found rest) (hz : rest = 0) : found = ((Int.gcd one other : Nat) : Int) := by
  rw [← h.eq, hz]
  have := h.f0
  rw [Int.gcd_zero_right]
  omega
/-! The root. -/
structure RootIs (number guess closer : Int) : Prop where
  n0 : 0 < number
  g0 : 0 < guess
  above : number < (guess + 1) * (guess + 1)
  small : guess < 2 ^ 4096
  eq : closer = (guess + number / guess) / 2
theorem mean (n g : Int) (n0 : 0 < n) (g0 : 0 < g) : n < ((g + n / g) / 2 + 1) * ((g + n / g) / 2 + 1) := by
  have d := Int.mul_ediv_add_emod n g
  have m1 := Int.emod_lt_of_pos n g0
  have q0 : 0 ≤ n / g := Int.ediv_nonneg (by omega) (by omega)
  generalize n / g = q at *
  have hc : g + (q + 1) ≤ 2 * ((g + q) / 2 + 1) := by omega
  have hk : n + 1 ≤ g * (q + 1) := by rw [Int.mul_add, Int.mul_one]; omega
  have k0 : 0 ≤ q + 1 := by omega
  generalize (g + q) / 2 + 1 = c at *
  generalize q + 1 = k at *
  have sq : (g + k) * (g + k) ≤ (2 * c) * (2 * c) := Int.mul_le_mul hc hc (by omega) (by omega)
  have sq2 : 0 ≤ (g - k) * (g - k) := by
    rcases Int.le_total 0 (g - k) with h | h
    · exact Int.mul_nonneg h h
    · exact Int.mul_nonneg_of_nonpos_of_nonpos h h
  have e1 : (g + k) * (g + k) = (g - k) * (g - k) + 4 * (g * k) := by
    rw [Int.add_mul, Int.mul_add, Int.mul_add, Int.sub_mul, Int.mul_sub, Int.mul_sub, Int.mul_comm k g]; omega
  have e2 : (2 * c) * (2 * c) = 4 * (c * c) := by
    rw [Int.mul_assoc, Int.mul_left_comm c 2 c]; omega
  omega
theorem r_turn {number guess closer next : Int} (h : RootIs number guess closer) (hl : closer < guess) (hn : next = (closer + number / closer) / 2) : RootIs number closer next := by
  obtain ⟨n0, g0, ab, sm, eq⟩ := h
  have m := mean number guess n0 g0
  rw [← eq] at m
  have q0 : 0 ≤ number / guess := Int.ediv_nonneg (by omega) (by omega)
  have c0 : 0 ≤ closer := by omega
  refine ⟨n0, ?_, m, Int.lt_trans hl sm, hn⟩
  rcases Int.lt_or_eq_of_le c0 with c | c
  · exact c
  · rw [← c] at m
    omega
theorem r_end {number guess closer : Int} (h : RootIs number guess closer) (hl : ¬ closer < guess) : 0 ≤ guess ∧ guess * guess ≤ number ∧ number < (guess + 1) * (guess + 1) := by
  obtain ⟨n0, g0, ab, sm, eq⟩ := h
  refine ⟨by omega, ?_, ab⟩
  have q : guess ≤ number / guess := by omega
  have d := Int.mul_ediv_add_emod number guess
  have m1 := Int.emod_nonneg number (show guess ≠ 0 by omega)
  have := Int.mul_le_mul_of_nonneg_left q (show 0 ≤ guess by omega)
  omega
theorem r_start {number guess closer b : Int} (n0 : 0 < number) (nb : number < 2 ^ b.toNat) (b0 : 0 ≤ b) (b1 : b ≤ 4096) (hg : guess = 2 ^ ((b + 1) / 2).toNat) (hn : closer = (guess + number / guess) / 2) : RootIs number guess closer := by
  have g0 : 0 < guess := by rw [hg]; exact Int.pow_pos (by decide)
  refine ⟨n0, g0, ?_, ?_, hn⟩
  · have h1 : (2 : Int) ^ b.toNat ≤ 2 ^ (((b + 1) / 2).toNat + ((b + 1) / 2).toNat) := by
      have : (2 : Nat) ^ b.toNat ≤ 2 ^ (((b + 1) / 2).toNat + ((b + 1) / 2).toNat) := Nat.pow_le_pow_right (by decide) (by omega)
      exact_mod_cast this
    rw [Int.pow_add, ← hg] at h1
    have h2 : guess * guess ≤ (guess + 1) * (guess + 1) := Int.mul_le_mul (by omega) (by omega) (by omega) (by omega)
    omega
  · rw [hg]
    have : (2 : Nat) ^ ((b + 1) / 2).toNat < 2 ^ 4096 := Nat.pow_lt_pow_right (by decide) (by omega)
    exact_mod_cast this
end My
namespace My
/-! Turned round. Euclid's way: what comes out is the greatest divisor; and the second number is how often a is in it, over m. -/
theorem tf_gcd : ∀ (k f : Nat) (p q : Nat) (x y : Int), q < 2 ^ k → 2 * k ≤ f → (Sv22.turnFrom f (p : Int) (q : Int) x y).1 = ((Nat.gcd p q : Nat) : Int)
  | 0, f, p, q, x, y, hq, _ => by
    have z : q = 0 := by omega
    subst z
    rw [Nat.gcd_zero_right]
    cases f with
    | zero => rfl
    | succ f => unfold Sv22.turnFrom; rfl
  | k + 1, f, p, q, x, y, hq, hf => by
    match f, hf with
    | f + 2, hf =>
      unfold Sv22.turnFrom
      by_cases c : (q : Int) = 0
      · rw [if_pos c]
        have z : q = 0 := by omega
        subst z
        rw [Nat.gcd_zero_right]
      · rw [if_neg c]
        have e1 : (p : Int) % (q : Int) = ((p % q : Nat) : Int) := rfl
        rw [e1]
        unfold Sv22.turnFrom
        by_cases d : ((p % q : Nat) : Int) = 0
        · rw [if_pos d]
          have z : p % q = 0 := by omega
          show (q : Int) = _
          rw [Nat.gcd_comm, Nat.gcd_rec, z, Nat.gcd_zero_left]
        · rw [if_neg d]
          have e2 : (q : Int) % ((p % q : Nat) : Int) = ((q % (p % q) : Nat) : Int) := rfl
          rw [e2]
          have hr : p % q < q := Nat.mod_lt _ (by omega)
          have hr2 : q % (p % q) < p % q := Nat.mod_lt _ (by omega)
          have hs : q % (p % q) < 2 ^ k := by
            have hdm := Nat.div_add_mod q (p % q)
            have h1 : 1 ≤ q / (p % q) := Nat.div_pos (by omega) (by omega)
            have h2 : p % q * 1 ≤ p % q * (q / (p % q)) := Nat.mul_le_mul_left _ h1
            rw [Nat.pow_succ] at hq
            omega
          rw [tf_gcd k f (p % q) (q % (p % q)) _ _ hs (by omega)]
          congr 1
          rw [Nat.gcd_comm (p % q), ← Nat.gcd_rec (p % q) q, ← Nat.gcd_rec q p, Nat.gcd_comm]
theorem tf_in (a m : Int) : ∀ (f : Nat) (p q x y : Int), (m ∣ p - x * a) → (m ∣ q - y * a) → m ∣ (Sv22.turnFrom f p q x y).1 - (Sv22.turnFrom f p q x y).2 * a
  | 0, p, q, x, y, hp, _ => by unfold Sv22.turnFrom; exact hp
  | f + 1, p, q, x, y, hp, hq => by
    unfold Sv22.turnFrom
    by_cases c : q = 0
    · rw [if_pos c]; exact hp
    · rw [if_neg c]
      refine tf_in a m f _ _ _ _ hq ?_
      have e : p % q - (x - p / q * y) * a = (p - x * a) - p / q * (q - y * a) := by
        have := Int.mul_ediv_add_emod p q
        have e1 : (x - p / q * y) * a = x * a - p / q * y * a := Int.sub_mul ..
        have e2 : p / q * (q - y * a) = p / q * q - p / q * (y * a) := Int.mul_sub ..
        have e3 : p / q * (y * a) = p / q * y * a := by rw [Int.mul_assoc]
        have e4 : p / q * q = q * (p / q) := Int.mul_comm ..
        rw [e1, e2, e3, e4]
        omega
      rw [e]
      exact Int.dvd_sub hp (Int.dvd_mul_of_dvd_right hq)
theorem log_lt' (n : Nat) : n < 2 ^ (n.log2 + 1) := by
  by_cases h : n = 0
  · subst h; decide
  · exact (Nat.log2_lt h).mp (Nat.lt_succ_self _)
theorem turn_gcd (x m : Nat) : (Sv22.turnFrom (2 * m.log2 + 8) (x : Int) (m : Int) 1 0).1 = ((Nat.gcd x m : Nat) : Int) :=
  tf_gcd (m.log2 + 1) _ x m 1 0 (log_lt' m) (by omega)
theorem turn_none {x m : Nat} (h : Nat.gcd x m ≠ 1) : Sv22.turnOf x m = none := by
  unfold Sv22.turnOf
  dsimp only
  rw [turn_gcd, if_neg]
  omega
theorem mul_cancel {a b x y : Nat} (hb : 0 < b) (g : Nat.gcd a b = 1) (h : a * x % b = a * y % b) (hx : x < b) (hy : y < b) : x = y := by
  have hd : (b : Int) ∣ (a : Int) * ((x : Int) - (y : Int)) := by
    have h1 : ((a * x : Nat) : Int) % (b : Int) = ((a * y : Nat) : Int) % (b : Int) := by
      rw [← Int.natCast_emod, ← Int.natCast_emod, h]
    have h2 := Int.emod_emod_of_dvd
    have := Int.dvd_of_emod_eq_zero (Int.emod_eq_emod_iff_emod_sub_eq_zero.mp h1)
    rw [Int.natCast_mul, Int.natCast_mul, ← Int.mul_sub] at this
    exact this
  have hd2 : b ∣ a * ((x : Int) - (y : Int)).natAbs := by
    have := Int.natAbs_dvd_natAbs.mpr hd
    rw [Int.natAbs_mul] at this
    simpa using this
  have hc : b ∣ ((x : Int) - (y : Int)).natAbs := Nat.Coprime.dvd_of_dvd_mul_left (show Nat.Coprime b a by rw [Nat.Coprime, Nat.gcd_comm]; exact g) hd2
  have hz : ((x : Int) - (y : Int)).natAbs = 0 := Nat.eq_zero_of_dvd_of_lt hc (by omega)
  omega
theorem turn_is {a b : Nat} (hb : 0 < b) (g : Nat.gcd a b = 1) : ∃ x, Sv22.turnOf a b = some x ∧ x < b ∧ a * x % b = 1 % b := by
  have h1 := turn_gcd a b
  have h2 := tf_in (a : Int) (b : Int) (2 * b.log2 + 8) (a : Int) (b : Int) 1 0 (by rw [Int.one_mul, Int.sub_self]; exact Int.dvd_zero _) (by rw [Int.zero_mul, Int.sub_zero]; exact Int.dvd_refl _)
  refine ⟨((Sv22.turnFrom (2 * b.log2 + 8) (a : Int) (b : Int) 1 0).2 % (b : Int)).toNat, ?_, ?_, ?_⟩
  · unfold Sv22.turnOf
    dsimp only
    rw [if_pos]
    rw [h1, g]; rfl
  · have := Int.emod_lt_of_pos (Sv22.turnFrom (2 * b.log2 + 8) (a : Int) (b : Int) 1 0).2 (show (0 : Int) < b by omega)
    have := Int.emod_nonneg (Sv22.turnFrom (2 * b.log2 + 8) (a : Int) (b : Int) 1 0).2 (show (b : Int) ≠ 0 by omega)
    omega
  · rw [h1, g] at h2
    generalize (Sv22.turnFrom (2 * b.log2 + 8) (a : Int) (b : Int) 1 0).2 = z at *
    have hz := Int.emod_nonneg z (show (b : Int) ≠ 0 by omega)
    have e : (((a * (z % (b : Int)).toNat % b : Nat)) : Int) = ((1 % b : Nat) : Int) := by
      rw [Int.natCast_emod, Int.natCast_emod, Int.natCast_mul, Int.toNat_of_nonneg hz, Int.mul_emod, Int.emod_emod, ← Int.mul_emod]
      have : ((1 : Nat) : Int) % (b : Int) = z * (a : Int) % (b : Int) := by
        refine Int.emod_eq_emod_iff_emod_sub_eq_zero.mpr ?_
        exact Int.emod_eq_zero_of_dvd h2
      rw [this, Int.mul_comm]
    exact Int.ofNat.inj e
theorem turn_only {a b x : Nat} (hb : 0 < b) (hx : x < b) (h : a * x % b = 1 % b) : Sv22.turnOf a b = some x := by
  have g : Nat.gcd a b = 1 := by
    have h1 : Nat.gcd a b ∣ a * x % b := (Nat.dvd_mod_iff (Nat.gcd_dvd_right a b)).mpr (Nat.dvd_mul_right_of_dvd (Nat.gcd_dvd_left a b) x)
    rw [h] at h1
    have h2 : Nat.gcd a b ∣ 1 := (Nat.dvd_mod_iff (Nat.gcd_dvd_right a b)).mp h1
    exact Nat.dvd_one.mp h2
  obtain ⟨y, e, hy, h'⟩ := turn_is hb g
  rw [e]
  congr 1
  exact mul_cancel hb g (by rw [h, h']) hy hx
end My
namespace My
/-! Loops: a number turned round. -/
structure TurnIs (number over found rest factor closer : Int) : Prop where
  o0 : 0 < over
  small : over < 2 ^ 4096
  f0 : 0 < found
  f1 : found ≤ over
  r0 : 0 ≤ rest
  r1 : rest < found
  eq : Int.gcd found rest = Int.gcd number over
  df : over ∣ found - factor * number
  dr : over ∣ rest - closer * number
  bound : (closer.natAbs : Int) * found + (factor.natAbs : Int) * rest ≤ over
theorem t_start {number over : Int} (o0 : 0 < over) (small : over < 2 ^ 4096) (n0 : 0 ≤ number) : TurnIs number over over (number % over) 0 1 := by
  have h0 := Int.emod_nonneg number (show over ≠ 0 by omega)
  have h1 := Int.emod_lt_of_pos number o0
  refine ⟨o0, small, o0, Int.le_refl _, h0, h1, ?_, ?_, ?_, ?_⟩
  · obtain ⟨f, rfl⟩ : ∃ k : Nat, number = (k : Int) := ⟨number.toNat, by omega⟩
    obtain ⟨r, rfl⟩ : ∃ k : Nat, over = (k : Int) := ⟨over.toNat, by omega⟩
    rw [← Int.natCast_emod, Int.gcd_natCast_natCast, Int.gcd_natCast_natCast, Nat.gcd_comm r, ← Nat.gcd_rec, Nat.gcd_comm]
  · rw [Int.zero_mul, Int.sub_zero]; exact Int.dvd_refl _
  · rw [Int.one_mul]
    have := Int.mul_ediv_add_emod number over
    refine ⟨-(number / over), ?_⟩
    rw [Int.mul_neg]
    omega
  · show (1 : Int) * over + 0 * (number % over) ≤ over
    omega
theorem TurnIs.closer_small {number over found rest factor closer : Int} (h : TurnIs number over found rest factor closer) : closer.natAbs < 2 ^ 4096 := by
  obtain ⟨o0, small, f0, f1, r0, r1, eq, df, dr, bound⟩ := h
  have h1 : (closer.natAbs : Int) * 1 ≤ (closer.natAbs : Int) * found := Int.mul_le_mul_of_nonneg_left (by omega) (by omega)
  have h2 : 0 ≤ (factor.natAbs : Int) * rest := Int.mul_nonneg (by omega) r0
  have h3 : ((closer.natAbs : Nat) : Int) < ((2 ^ 4096 : Nat) : Int) := by
    rw [Int.natCast_pow]
    have e : ((2 : Nat) : Int) = 2 := rfl
    rw [e]
    omega
  exact Int.ofNat_lt.mp h3
theorem t_turn {number over found rest factor closer times left further : Int} (h : TurnIs number over found rest factor closer) (hz : ¬ rest = 0) (ht : times = found / rest) (hl : left = found - times * rest) (hf : further = factor - times * closer) :
    TurnIs number over rest left closer further := by
  obtain ⟨o0, small, f0, f1, r0, r1, eq, df, dr, bound⟩ := h
  have d := Int.mul_ediv_add_emod found rest
  have m0 := Int.emod_nonneg found hz
  have m1 := Int.emod_lt_of_pos found (show 0 < rest by omega)
  have t0 : 0 ≤ times := by rw [ht]; exact Int.ediv_nonneg (by omega) r0
  have el : left = found % rest := by
    rw [hl, ht, Int.mul_comm]; omega
  refine ⟨o0, small, by omega, by omega, by omega, by omega, ?_, dr, ?_, ?_⟩
  · rw [← eq, el]
    obtain ⟨f, rfl⟩ : ∃ k : Nat, found = (k : Int) := ⟨found.toNat, by omega⟩
    obtain ⟨r, rfl⟩ : ∃ k : Nat, rest = (k : Int) := ⟨rest.toNat, by omega⟩
    rw [← Int.natCast_emod, Int.gcd_natCast_natCast, Int.gcd_natCast_natCast, Nat.gcd_comm f r, Nat.gcd_rec r f, Nat.gcd_comm]
  · have e : left - further * number = (found - factor * number) - times * (rest - closer * number) := by
      rw [hl, hf, Int.sub_mul, Int.mul_sub, Int.mul_assoc]; omega
    rw [e]
    exact Int.dvd_sub df (Int.dvd_mul_of_dvd_right dr)
  · have b1 : (further.natAbs : Int) ≤ (factor.natAbs : Int) + times * (closer.natAbs : Int) := by
      have e : (times * closer).natAbs = times.natAbs * closer.natAbs := Int.natAbs_mul ..
      have e2 : ((times * closer).natAbs : Int) = times * (closer.natAbs : Int) := by
        rw [e, Int.natCast_mul, Int.natAbs_of_nonneg t0]
      rw [← e2, hf]
      omega
    have b2 : (further.natAbs : Int) * rest ≤ ((factor.natAbs : Int) + times * (closer.natAbs : Int)) * rest := Int.mul_le_mul_of_nonneg_right b1 r0
    rw [Int.add_mul] at b2
    have b3 : (closer.natAbs : Int) * left = (closer.natAbs : Int) * found - times * (closer.natAbs : Int) * rest := by
      rw [hl, Int.mul_sub, ← Int.mul_assoc, Int.mul_comm (closer.natAbs : Int) times]
    omega
theorem t_less {number over found rest factor closer times left : Int} (h : TurnIs number over found rest factor closer) (hz : ¬ rest = 0) (ht : times = found / rest) (hl : left = found - times * rest) : left.toNat < rest.toNat := by
  have := t_turn (further := factor - times * closer) h hz ht hl rfl
  have h1 := this.r1
  have h2 := this.f0
  omega
theorem TurnIs.times_small {number over found rest factor closer : Int} (h : TurnIs number over found rest factor closer) : (found / rest).natAbs < 2 ^ 4096 := by
  obtain ⟨o0, small, f0, f1, r0, r1, eq, df, dr, bound⟩ := h
  have h1 : found / rest ≤ found := Int.ediv_le_self _ (by omega)
  have h0 : 0 ≤ found / rest := Int.ediv_nonneg (by omega) r0
  have h3 : (((found / rest).natAbs : Nat) : Int) < ((2 ^ 4096 : Nat) : Int) := by
    rw [Int.natCast_pow]
    have e : ((2 : Nat) : Int) = 2 := rfl
    rw [e]
    omega
  exact Int.ofNat_lt.mp h3
theorem TurnIs.rest_small {number over found rest factor closer : Int} (h : TurnIs number over found rest factor closer) : rest.natAbs < 2 ^ 4096 := by
  obtain ⟨o0, small, f0, f1, r0, r1, eq, df, dr, bound⟩ := h
  have h3 : ((rest.natAbs : Nat) : Int) < ((2 ^ 4096 : Nat) : Int) := by
    rw [Int.natCast_pow]
    have e : ((2 : Nat) : Int) = 2 := rfl
    rw [e]
    omega
  exact Int.ofNat_lt.mp h3
theorem t_end {number over found rest factor closer x : Int} (h : TurnIs number over found rest factor closer) (hz : rest = 0) (hg : Int.gcd number over = 1) (hx : x = factor % over) : 0 ≤ x ∧ x < over ∧ number * x % over = 1 % over := by
  obtain ⟨o0, small, f0, f1, r0, r1, eq, df, dr, bound⟩ := h
  rw [hz, Int.gcd_zero_right, hg] at eq
  have e : found = 1 := by omega
  rw [e] at df
  subst hx
  refine ⟨Int.emod_nonneg _ (by omega), Int.emod_lt_of_pos _ o0, ?_⟩
  rw [Int.mul_emod, Int.emod_emod, ← Int.mul_emod]
  symm
  refine Int.emod_eq_emod_iff_emod_sub_eq_zero.mpr ?_
  rw [Int.mul_comm]
  exact Int.emod_eq_zero_of_dvd df
/-! Loops: the power. -/
structure PowIs (number exponent over result square rest : Int) : Prop where
  o0 : 0 < over
  small : over < 2 ^ 4096
  a0 : 0 ≤ result
  a1 : result < over
  s0 : 0 ≤ square
  s1 : square < over
  r0 : 0 ≤ rest
  eq : result * square ^ rest.toNat % over = number ^ exponent.toNat % over
theorem pow_mod (x m : Int) : ∀ k : Nat, (x % m) ^ k % m = x ^ k % m
  | 0 => by rw [Int.pow_zero, Int.pow_zero]
  | k + 1 => by
    rw [Int.pow_succ, Int.pow_succ, Int.mul_emod, pow_mod x m k, Int.emod_emod, ← Int.mul_emod]
theorem p_start {number exponent over : Int} (o0 : 0 < over) (small : over < 2 ^ 4096) (e0 : 0 ≤ exponent) : PowIs number exponent over (1 % over) (number % over) exponent := by
  have hz : over ≠ 0 := by omega
  refine ⟨o0, small, Int.emod_nonneg _ hz, Int.emod_lt_of_pos _ o0, Int.emod_nonneg _ hz, Int.emod_lt_of_pos _ o0, e0, ?_⟩
  rw [Int.mul_emod, Int.emod_emod, pow_mod, ← Int.mul_emod, Int.one_mul]
theorem sq_pow (x : Int) (k : Nat) : (x * x) ^ k = x ^ (k + k) := by
  rw [Int.mul_pow, Int.pow_add]
theorem p_even {number exponent over result square rest s r : Int} (h : PowIs number exponent over result square rest) (hb : ¬ rest % 2 = 1) (hs : s = square * square % over) (hr : r = rest / 2) : PowIs number exponent over result s r := by
  obtain ⟨o0, small, a0, a1, s0, s1, r0, eq⟩ := h
  have hz : over ≠ 0 := by omega
  refine ⟨o0, small, a0, a1, by rw [hs]; exact Int.emod_nonneg _ hz, by rw [hs]; exact Int.emod_lt_of_pos _ o0, by omega, ?_⟩
  rw [← eq, hs, Int.mul_emod, pow_mod, ← Int.mul_emod, sq_pow]
  have : r.toNat + r.toNat = rest.toNat := by omega
  rw [this]
theorem p_odd {number exponent over result square rest a s r : Int} (h : PowIs number exponent over result square rest) (hb : rest % 2 = 1) (ha : a = result * square % over) (hs : s = square * square % over) (hr : r = rest / 2) : PowIs number exponent over a s r := by
  obtain ⟨o0, small, a0, a1, s0, s1, r0, eq⟩ := h
  have hz : over ≠ 0 := by omega
  refine ⟨o0, small, by rw [ha]; exact Int.emod_nonneg _ hz, by rw [ha]; exact Int.emod_lt_of_pos _ o0, by rw [hs]; exact Int.emod_nonneg _ hz, by rw [hs]; exact Int.emod_lt_of_pos _ o0, by omega, ?_⟩
  rw [← eq, ha, hs, Int.mul_emod, Int.emod_emod, pow_mod, ← Int.mul_emod, sq_pow, Int.mul_assoc, Int.mul_comm square, ← Int.pow_succ]
  have : (r.toNat + r.toNat).succ = rest.toNat := by omega
  rw [this]
theorem p_end {number exponent over result square rest : Int} (h : PowIs number exponent over result square rest) (hz : rest = 0) : result = number ^ exponent.toNat % over := by
  obtain ⟨o0, small, a0, a1, s0, s1, r0, eq⟩ := h
  rw [← eq, hz]
  show result = result * square ^ 0 % over
  rw [Int.pow_zero, Int.mul_one, Int.emod_eq_of_lt a0 a1]
theorem small_abs {over x : Int} (small : over < 2 ^ 4096) (x0 : 0 ≤ x) (x1 : x ≤ over) : x.natAbs < 2 ^ 4096 := by
  have h3 : ((x.natAbs : Nat) : Int) < ((2 ^ 4096 : Nat) : Int) := by
    rw [Int.natCast_pow]
    have e : ((2 : Nat) : Int) = 2 := rfl
    rw [e]
    omega
  exact Int.ofNat_lt.mp h3
end My
namespace My
theorem turn_eq (a b : List Int) : PySv22.turn a b = ans (if (Sv22.size (a.length : Int) && Sv22.size (b.length : Int)) = false ∨ Sv22.valueOf (Sv22Neutral.nats b) = 0 then Sv22.ok (-2)
    else match Sv22.turnOf (Sv22.valueOf (Sv22Neutral.nats a)) (Sv22.valueOf (Sv22Neutral.nats b)) with
      | some x => ⟨0, Sv22.wordsOf (Sv22Neutral.nats b).length x⟩
      | none => Sv22.ok (-5)) := rfl
theorem turn_bad {a b : List Int} (h : a.length = 0 ∨ b.length = 0) : PySv22.turn a b = [-2] := by
  rw [turn_eq, if_pos]
  · rfl
  · rcases h with h | h
    · rw [size_false h]; exact .inl rfl
    · rw [size_false h, Bool.and_false]; exact .inl rfl
theorem turn_zero {a b : List Int} (hb : InW b) (z : numOf b = 0) : PySv22.turn a b = [-2] := by
  rw [turn_eq, if_pos]
  · rfl
  · right
    rw [num_nat b hb] at z
    exact Int.ofNat.inj z
theorem turn_val {a b : List Int} {x : Int} (ha : InW a) (hb : InW b) (a1 : 1 ≤ a.length) (a2 : a.length ≤ 64) (b1 : 1 ≤ b.length) (b2 : b.length ≤ 64) (x0 : 0 ≤ x) (x1 : x < numOf b) (h : numOf a * x % numOf b = 1 % numOf b) :
    PySv22.turn a b = 0 :: rowI b.length x := by
  obtain ⟨k, rfl⟩ : ∃ k : Nat, x = (k : Int) := ⟨x.toNat, by omega⟩
  rw [num_nat b hb] at x1
  rw [num_nat a ha, num_nat b hb] at h
  have hz : ¬ Sv22.valueOf (Sv22Neutral.nats b) = 0 := by omega
  have e := turn_only (a := Sv22.valueOf (Sv22Neutral.nats a)) (b := Sv22.valueOf (Sv22Neutral.nats b)) (x := k) (by omega) (by omega) (by exact_mod_cast h)
  rw [turn_eq, size_true a1 a2, size_true b1 b2, if_neg (by simp [hz]), e, row_nat, nats_len]
  rfl
theorem turn_not {a b : List Int} (ha : InW a) (hb : InW b) (a1 : 1 ≤ a.length) (a2 : a.length ≤ 64) (b1 : 1 ≤ b.length) (b2 : b.length ≤ 64) (z : numOf b ≠ 0) (h : Int.gcd (numOf a) (numOf b) ≠ 1) :
    PySv22.turn a b = [-5] := by
  rw [num_nat b hb] at z
  rw [num_nat a ha, num_nat b hb, Int.gcd_natCast_natCast] at h
  have hz : ¬ Sv22.valueOf (Sv22Neutral.nats b) = 0 := by omega
  rw [turn_eq, size_true a1 a2, size_true b1 b2, if_neg (by simp [hz]), turn_none h]
  rfl
end My
/-! The steps. -/
namespace My
open PySem PySem.W PySem.Calls PyProof.Rows PyProof.V PySem.Spec
structure NumIs (pre : List Int) (n : Int) : Prop where
  eq : n = numOf pre.reverse
  inw : InW pre
  short : pre.length ≤ 64
theorem num_start : NumIs [] 0 := ⟨rfl, (fun _ h => nomatch h), by decide⟩
theorem NumIs.inr {pre : List Int} {n : Int} (h : NumIs pre n) : InW pre.reverse := fun x hx => h.inw x (List.mem_reverse.mp hx)
theorem NumIs.nn {pre : List Int} {n : Int} (h : NumIs pre n) : 0 ≤ n := by rw [h.eq]; exact num_nonneg h.inr
theorem NumIs.abs {pre : List Int} {n : Int} (h : NumIs pre n) : n.natAbs < 2 ^ 4096 := by
  rw [h.eq]
  refine Nat.lt_of_lt_of_le (num_natAbs_lt h.inr) (Nat.pow_le_pow_right (by decide) ?_)
  have := h.short
  rw [List.length_reverse]
  omega
theorem NumIs.bits {pre : List Int} {n : Int} (h : NumIs pre n) : Builtin.Int.intBits n ≤ 4096 := intBits_le_iff.mpr h.abs
structure ShlOf (x z : Int) : Prop where
  eq : z = x * 18446744073709551616
structure OrOf (x y z : Int) : Prop where
  eq : z = x * 18446744073709551616 + y
structure AndOf (x z : Int) : Prop where
  eq : z = x % 18446744073709551616
structure ShrOf (x z : Int) : Prop where
  eq : z = x / 18446744073709551616
structure MulOf (x y z : Int) : Prop where
  eq : z = x * y
structure DivOf (x y z : Int) : Prop where
  eq : z = x / y
structure ModOf (x y z : Int) : Prop where
  eq : z = x % y
theorem num_turn {ns pre : List Int} {n v r : Int} (h : NumIs pre n) (ho : OrOf n v r) (hm : v ∈ ns) (hw : InW ns) (hl : pre.length < ns.length) (hs : ns.length ≤ 64) : NumIs (pre ++ [v]) r := by
  refine ⟨?_, ?_, ?_⟩
  · rw [List.reverse_append, ho.eq]
    show _ = numOf pre.reverse * 18446744073709551616 + v
    rw [← h.eq]
  · intro x hx
    rcases List.mem_append.mp hx with hx | hx
    · exact h.inw x hx
    · rw [List.mem_singleton.mp hx]; exact hw v hm
  · rw [List.length_append]
    show pre.length + 1 ≤ 64
    omega
theorem num_is {ns : List Int} {n : Int} (h : NumIs ns.reverse n) : n = numOf ns := by
  have := h.eq
  rw [List.reverse_reverse] at this
  exact this
theorem and_low (a d : Nat) (h : d < 2 ^ 64) : (2 ^ 64 * a) &&& d = 0 := by
  have e1 : d &&& (2 ^ 64 - 1) = d % 2 ^ 64 := Nat.and_two_pow_sub_one_eq_mod d 64
  have e2 : (2 ^ 64 * a) &&& (2 ^ 64 - 1) = (2 ^ 64 * a) % 2 ^ 64 := Nat.and_two_pow_sub_one_eq_mod (2 ^ 64 * a) 64
  have e3 : d % 2 ^ 64 = d := Nat.mod_eq_of_lt h
  have e4 : (2 ^ 64 * a) % 2 ^ 64 = 0 := Nat.mul_mod_right _ _
  have f1 : d &&& (2 ^ 64 - 1) = d := e1.trans e3
  have f2 : (2 ^ 64 * a) &&& (d &&& (2 ^ 64 - 1)) = ((2 ^ 64 * a) &&& (2 ^ 64 - 1)) &&& d := by rw [Nat.and_comm d, Nat.and_assoc]
  rw [f1, e2, e4, Nat.zero_and] at f2
  exact f2
theorem or_low {v d : Int} (h0 : 0 ≤ v) (d0 : 0 ≤ d) (d1 : d ≤ 18446744073709551615) : Builtin.bitOr (v * 18446744073709551616) d = v * 18446744073709551616 + d := by
  have e : (v * 18446744073709551616).toNat &&& d.toNat = 0 := by
    have q : (v * 18446744073709551616).toNat = 2 ^ 64 * v.toNat := by
      have : (2 : Nat) ^ 64 = 18446744073709551616 := by decide
      rw [this]; omega
    rw [q]
    refine and_low _ _ ?_
    have : (2 : Nat) ^ 64 = 18446744073709551616 := by decide
    omega
  rw [PyProof.Rows.bitOr_and, PyProof.Rows.bitAnd_pp (by omega) d0, e]
  exact Int.sub_zero _
theorem mask64 (x : Int) : Builtin.bitAnd x 18446744073709551615 = x % 18446744073709551616 := kbt_mask x 64
section
variable {prog : Program} {w : World} {A : Around} {E : Value → Shared → Prop} {s : Shared} {x y : Int} {t u : Tok} {Q : Value → Shared → Prop}
theorem step_shl {pre : List Int} (hx : NumIs pre x) (h : ∀ z, ShlOf x z → Q (.int z s.toks) { s with toks := s.toks + 1 }) : wpAny (model prog w) A (binaryOp .LShift (.int x t) (.int 64 u)) Q E s := by
  have e : (2 : Int) ^ (64 : Int).toNat = 18446744073709551616 := by first | decide | rfl
  refine PyProof.Rows.lshift_int (by decide) ?_ ?_
  · have := hx.bits
    have e2 : (2 : Int) ^ 27 = 134217728 := by decide
    rw [e2]
    omega
  · rw [e]
    exact h _ ⟨rfl⟩
theorem step_or {pre ns : List Int} {x' : Int} (hz : ShlOf x' x) (hx : NumIs pre x') (hm : y ∈ ns) (hw : InW ns) (h : ∀ z, OrOf x' y z → Q (.int z s.toks) { s with toks := s.toks + 1 }) :
    wpAny (model prog w) A (binaryOp .BitOr (.int x t) (.int y u)) Q E s := by
  refine PyProof.Rows.or_int ?_
  have := hw y hm
  rw [hz.eq, or_low hx.nn this.1 this.2]
  exact h _ ⟨rfl⟩
theorem step_and (h : ∀ z, AndOf x z → Q (.int z s.toks) { s with toks := s.toks + 1 }) : wpAny (model prog w) A (binaryOp .BitAnd (.int x t) (.int 18446744073709551615 u)) Q E s := by
  refine PyProof.Rows.and_int ?_
  rw [mask64]
  exact h _ ⟨rfl⟩
theorem step_shr (h : ∀ z, ShrOf x z → Q (.int z s.toks) { s with toks := s.toks + 1 }) : wpAny (model prog w) A (binaryOp .RShift (.int x t) (.int 64 u)) Q E s := by
  have e : (2 : Int) ^ (64 : Int).toNat = 18446744073709551616 := by first | decide | rfl
  refine PyProof.Rows.rshift_int (by decide) ?_
  rw [e, Int.fdiv_eq_ediv_of_nonneg x (by decide)]
  exact h _ ⟨rfl⟩
theorem step_mul {p q : List Int} (hx : NumIs p x) (hy : NumIs q y) (h : ∀ z, MulOf x y z → Q (.int z s.toks) { s with toks := s.toks + 1 }) : wpAny (model prog w) A (binaryOp .Mult (.int x t) (.int y u)) Q E s :=
  PyProof.Rows.mul_int (h _ ⟨rfl⟩) (PySem.IntMulOk.of_le hx.bits hy.bits (by decide))
theorem log2_lt {z : Int} (h : z.natAbs < 2 ^ 4096) : z.natAbs.log2 < 9000 := by
  by_cases h0 : z.natAbs = 0
  · rw [h0]; decide +kernel
  · have : z.natAbs.log2 < 4096 := (Nat.log2_lt h0).mpr h
    omega
theorem step_fdiv {p q : List Int} (_hx : NumIs p x) (hy : NumIs q y) (hz : ¬ y = 0) (h : ∀ z, DivOf x y z → Q (.int z s.toks) { s with toks := s.toks + 1 }) : wpAny (model prog w) A (binaryOp .FloorDiv (.int x t) (.int y u)) Q E s := by
  refine PyProof.Rows.floordiv_int hz ?_ (Or.inl (PyProof.noPylong_of_log2 (log2_lt hy.abs)))
  rw [Int.fdiv_eq_ediv_of_nonneg x hy.nn]
  exact h _ ⟨rfl⟩
theorem step_fmod {p q : List Int} (_hx : NumIs p x) (hy : NumIs q y) (hz : ¬ y = 0) (h : ∀ z, ModOf x y z → Q (.int z s.toks) { s with toks := s.toks + 1 }) : wpAny (model prog w) A (binaryOp .Mod (.int x t) (.int y u)) Q E s := by
  refine PyProof.Rows.mod_int hz ?_
  rw [Int.fmod_eq_emod_of_nonneg x hy.nn]
  exact h _ ⟨rfl⟩
end
section
variable {prog : Program} {w : World} {A : Around} {E : Value → Shared → Prop} {s : Shared} {env : Env} {h₀ : Heap} {x : Str} {body : List Stmt} {Q : Flow → Shared → Prop}
theorem rev_state {I l : Addr} {vs : List Value} {ns : List Int} {m₀ : Str → Option Value} {news : List (Addr × Obj)} {y : Str} {a₀ : Int} {t₀ : Nat} (P : List Int → Int → Prop)
    (hh : A.handled = none) (hl : h₀.IsList l vs.toArray) (hi : IntsAre vs ns) (F : Fr h₀ env.locals s.heap m₀) (N : News h₀ env.locals s.heap ((I, revObj l ((vs.length : Int) - 1)) :: news)) (hoff : ∀ p ∈ news, p.1 ≠ I)
    (hk : m₀ y = some (.int a₀ t₀)) (hp : P [] a₀)
    (turn : ∀ (c : Int × Nat) pre post n t (u : Str → Option Value) h tk own, ns.reverse = pre ++ n :: post → n ∈ ns → pre.length < ns.length → OwnOff own (news.map (·.1)) → P pre c.1 →
      Fr h₀ env.locals h (fun z => if z = x then some (.int n t) else kstB (fun z => if ([] : List Str).contains z then u z else m₀ z) [(y, .int c.1 c.2)] z) → News h₀ env.locals h (news ++ own) →
      wpAny (model prog w) A (execs body env) (InvPostN h₀ env.locals (KstS (fun _ : Int × Nat => news) (fun c => [(y, .int c.1 c.2)]) (fun _ => True) x [] m₀ (fun pre c => P pre c.1) (pre ++ [n])) own (news.map (·.1)) { s with heap := h, toks := tk } Q) E { s with heap := h, toks := tk })
    (done : ∀ (c : Int × Nat) (u : Str → Option Value) h tk, P ns.reverse c.1 → Fr h₀ env.locals h (fun z => if z = x then u z else kstB (fun z => if ([] : List Str).contains z then u z else m₀ z) [(y, .int c.1 c.2)] z) → News h₀ env.locals h news → Q .next { s with heap := h, toks := tk }) :
    wpAny (model prog w) A (pyIter (.ref I)) (fun it s₂ => LoopAtV prog w A h₀ env x body Q E it s₂) E s := by
  have hls : s.heap.IsList l vs.toArray := hl.at fun o e => F.keep l o e
  obtain ⟨ol, hol, _⟩ := id hl
  have hlt : l < h₀.objs.size := Heap.lt_size hol
  have hI := N _ (List.mem_cons_self ..)
  have hne : l ≠ I := by
    intro e
    have h1 := hI.2.2
    rw [← e, hol] at h1
    cases h1
  have hit : s.heap.IsRevIter I l ((vs.length : Int) - 1) := ⟨_, hI.1, rfl, rfl⟩
  refine wpAny_pyIter_revIter hit ?_
  have W := Walks.listRev (prog := prog) (w := w) hh I l hne vs.toArray
  have hlen : vs.toArray.size = ns.length := by simp [hi.length]
  have hlen2 : vs.length = ns.length := hi.length
  rw [hlen] at W
  refine loop_invN (fun i m nx => KstS (fun _ : Int × Nat => news) (fun c => [(y, .int c.1 c.2)]) (fun _ => True) x [] m₀ (fun pre c => P pre c.1) (ns.reverse.take i) m nx) W ?_ ?_ ?_ ?_ ?_ F (fun p hp => N p (List.mem_cons_of_mem _ hp)) ⟨(a₀, t₀), rfl, trivial, ?_, fun _ _ _ _ => rfl, by simpa using hp⟩ ?_ ?_
  · intro hm
    rcases List.mem_cons.mp hm with e | hm
    · exact hI.2.1 e.symm
    · exact absurd (Nat.lt_of_lt_of_le hlt F.above) ((List.mem_singleton.mp hm) ▸ Nat.lt_irrefl _)
  · intro b hb
    rw [List.mem_singleton.mp hb]
    exact hI.2.2
  · intro p hp hm
    exact hoff p hp (List.mem_singleton.mp hm)
  · intro p hp hm
    rcases List.mem_cons.mp hm with e | hm
    · exact hoff p hp e
    · have h1 := (N p (List.mem_cons_of_mem _ hp)).2.2
      rw [List.mem_singleton.mp hm, hol] at h1
      cases h1
  · refine ⟨Nat.zero_le _, ?_, hls⟩
    have e : (ns.length : Int) - 1 - ((0 : Nat) : Int) = (vs.length : Int) - 1 := by omega
    rw [e]
    exact hit
  · intro p hp
    rw [List.mem_singleton.mp hp]
    exact hk
  · rintro i v m₁ nx h tk own hi' hP _ hoff' ⟨c, rfl, _, h1, h2, hp'⟩ F₁ N₁
    have hj : ns.length - 1 - i < ns.length := by omega
    obtain ⟨t, hx⟩ := hi.get (ns.length - 1 - i) (ns[ns.length - 1 - i]) (by simp [hj])
    have hv : v = .int (ns[ns.length - 1 - i]) t := by
      have hP' : vs[ns.length - 1 - i]? = some v := by simpa using hP
      rw [hx] at hP'
      exact (Option.some.inj hP').symm
    subst hv
    have hn : ns.reverse[i]? = some (ns[ns.length - 1 - i]) := by
      rw [List.getElem?_reverse hi']
      simp [hj]
    have hs : ns.reverse.take (i + 1) = ns.reverse.take i ++ [ns[ns.length - 1 - i]] := by simp [List.take_add_one, hn]
    have e : ns.reverse = ns.reverse.take i ++ ns[ns.length - 1 - i] :: ns.reverse.drop (i + 1) := by
      have ht := List.take_append_drop (i + 1) ns.reverse
      rw [hs, List.append_assoc] at ht
      exact ht.symm
    have hl2 : (ns.reverse.take i).length < ns.length := by
      rw [List.length_take, List.length_reverse]
      omega
    rw [hs]
    exact turn c _ _ _ t m₁ h tk own e (List.getElem_mem hj) hl2 hoff' hp' (kst_fr h1 h2 F₁) N₁
  · rintro m₁ nx h tk ⟨c, rfl, _, h1, h2, hp'⟩ F₁ N₁
    have z : ns.reverse.take ns.length = ns.reverse := List.take_of_length_le (by rw [List.length_reverse]; exact Nat.le_refl _)
    rw [z] at hp'
    exact done c m₁ h tk hp' (kst_frOut h1 h2 F₁) N₁
end
end My
/-! The request, one argument at a time. -/
namespace My
open PySem PySem.W
theorem dec_cons {c : Codec} {cs : List Codec} {d : WData} {ds : List WData} (h : (Codec.decAll (c :: cs) (d :: ds)).isSome = true) :
    (Codec.decAll [c] [d]).isSome = true ∧ (Codec.decAll cs ds).isSome = true := by
  have e : Codec.decAll (c :: cs) (d :: ds) = Codec.both Prod.mk (c.dec d) (Codec.decAll cs ds) := rfl
  have e1 : Codec.decAll [c] [d] = Codec.both Prod.mk (c.dec d) (some ()) := rfl
  rw [e] at h
  rw [e1]
  cases h1 : c.dec d with
  | none =>
    rw [h1] at h
    cases h
  | some a =>
    cases h2 : Codec.decAll cs ds with
    | none =>
      rw [h1, h2] at h
      cases h
    | some r => exact ⟨rfl, rfl⟩
theorem dec_join {c : Codec} {cs : List Codec} {d : WData} {ds : List WData} {a : c.denote} {r : Codec.denoteAll cs} (h1 : Codec.decAll [c] [d] = some (a, ())) (h2 : Codec.decAll cs ds = some r) :
    Codec.decAll (c :: cs) (d :: ds) = some (a, r) := by
  have e : Codec.decAll (c :: cs) (d :: ds) = Codec.both Prod.mk (c.dec d) (Codec.decAll cs ds) := rfl
  have e1 : Codec.decAll [c] [d] = Codec.both Prod.mk (c.dec d) (some ()) := rfl
  rw [e1] at h1
  rw [e, h2]
  cases h3 : c.dec d with
  | none =>
    rw [h3] at h1
    cases h1
  | some b =>
    rw [h3] at h1
    cases h1
    rfl
theorem same_list {l k : List Int} (h : l = k) : same (WData.list (ofPys (l.map PyData.int))) (WData.list (k.map WData.int)) = true := by
  subst h
  rw [ofPys_ints]
  exact same_self _
theorem two_lists_of {least most : Nat} {a b : List Int} (h : (Codec.decAll [.list least most (.int 0 18446744073709551615), .list least most (.int 0 18446744073709551615)] [ofPy (PyData.list (a.map PyData.int)), ofPy (PyData.list (b.map PyData.int))]).isSome = true) :
    (Codec.decAll [.list least most (.int 0 18446744073709551615), .list least most (.int 0 18446744073709551615)] [ofPy (PyData.list (a.map PyData.int)), ofPy (PyData.list (b.map PyData.int))] = some (a, b, ())) ∧ a.length ≤ most ∧ InW a ∧ b.length ≤ most ∧ InW b := by
  obtain ⟨h1, h2⟩ := dec_cons h
  obtain ⟨e1, _, most1, items1⟩ := os_dec_ints h1
  obtain ⟨e2, _, most2, items2⟩ := os_dec_ints h2
  exact ⟨dec_join e1 e2, most1, items1, most2, items2⟩
end My
namespace My
theorem w_start {number length : Int} (h0 : 0 ≤ length) (h1 : length ≤ 128) : (([] : List Int).length : Int) ≤ length ∧ length ≤ 128 ∧ RowIs number [] number := ⟨h0, h1, row_start number⟩
theorem w_turn {number length rest r q : Int} {row : List Int} (hr : AndOf rest r) (hq : ShrOf rest q) (h : RowIs number row rest) (h0 : (row.length : Int) < length) (h1 : length ≤ 128) :
    ((row ++ [r]).length : Int) ≤ length ∧ length ≤ 128 ∧ RowIs number (row ++ [r]) q := by
  rw [hr.eq, hq.eq]
  refine ⟨?_, h1, row_turn h⟩
  rw [List.length_append]
  show ((row.length + 1 : Nat) : Int) ≤ length
  omega
theorem w_less {row : List Int} {length v : Int} (h0 : (row.length : Int) < length) : (length - ((row ++ [v]).length : Int)).toNat < (length - (row.length : Int)).toNat := by
  rw [List.length_append]
  show (length - ((row.length + 1 : Nat) : Int)).toNat < _
  omega
end My
example : Int → Int → List Int → List Int → Int → Prop := fun number length _ row rest => (row.length : Int) ≤ length ∧ length ≤ 128 ∧ My.RowIs number row rest
example : Int → Int → List Int → List Int → Int → Nat := fun _ length _ row _ => (length - (row.length : Int)).toNat
namespace My
open PySem PySem.W PySem.Calls PyProof.Rows PyProof.V PySem.Spec
section
variable {prog : Program} {w : World} {A : Around} {E : Value → Shared → Prop} {s : Shared} {x y : Int} {t u : Tok} {Q : Value → Shared → Prop}
theorem step_gmod {one other : Int} (hg : GcdIs one other x y) (hz : ¬ y = 0) (h : ∀ z, ModOf x y z → Q (.int z s.toks) { s with toks := s.toks + 1 }) : wpAny (model prog w) A (binaryOp .Mod (.int x t) (.int y u)) Q E s := by
  refine PyProof.Rows.mod_int hz ?_
  rw [Int.fmod_eq_emod_of_nonneg x hg.r0]
  exact h _ ⟨rfl⟩
end
theorem gw_start {p q : List Int} {one other : Int} (h1 : NumIs p one) (h2 : NumIs q other) : GcdIs one other one other := g_start h1.nn h2.nn
theorem gw_turn {one other found rest left : Int} (h : GcdIs one other found rest) (hm : ModOf found rest left) (hz : ¬ rest = 0) : GcdIs one other rest left := g_turn h hm.eq hz
theorem gw_less {one other found rest left : Int} (h : GcdIs one other found rest) (hm : ModOf found rest left) (hz : ¬ rest = 0) : left.toNat < rest.toNat := g_less h hm.eq hz
end My
namespace My
open PySem PySem.W PySem.Calls PyProof.Rows PyProof.V PySem.Spec
theorem NumIs.small {p : List Int} {n : Int} (h : NumIs p n) : n < 2 ^ 4096 := by
  have h1 := h.abs
  have nn := h.nn
  have h2 : ((n.natAbs : Nat) : Int) < ((2 ^ 4096 : Nat) : Int) := Int.ofNat_lt.mpr h1
  rw [Int.natCast_pow] at h2
  have e : ((2 : Nat) : Int) = 2 := rfl
  rw [e] at h2
  omega
theorem tw_start {p q : List Int} {number over r : Int} (hx : NumIs p number) (hy : NumIs q over) (hm : ModOf number over r) (hz : ¬ over = 0) : TurnIs number over over r 0 1 := by
  rw [hm.eq]
  have := hy.nn
  exact t_start (by omega) hy.small hx.nn
theorem tw_turn {number over found rest factor closer times p q : Int} (h : TurnIs number over found rest factor closer) (ht : DivOf found rest times) (hp : MulOf times rest p) (hq : MulOf times closer q) (hz : ¬ rest = 0) :
    TurnIs number over rest (found - p) closer (factor - q) := t_turn h hz ht.eq (by rw [hp.eq]) (by rw [hq.eq])
theorem tw_less {number over found rest factor closer times p : Int} (h : TurnIs number over found rest factor closer) (ht : DivOf found rest times) (hp : MulOf times rest p) (hz : ¬ rest = 0) : (found - p).toNat < rest.toNat := t_less h hz ht.eq (by rw [hp.eq])
section
variable {prog : Program} {w : World} {A : Around} {E : Value → Shared → Prop} {s : Shared} {x y : Int} {t u : Tok} {Q : Value → Shared → Prop}
theorem step_tdiv {n o fa c : Int} (hT : TurnIs n o x y fa c) (hz : ¬ y = 0) (h : ∀ z, DivOf x y z → Q (.int z s.toks) { s with toks := s.toks + 1 }) : wpAny (model prog w) A (binaryOp .FloorDiv (.int x t) (.int y u)) Q E s := by
  refine PyProof.Rows.floordiv_int hz ?_ (Or.inl (PyProof.noPylong_of_log2 (log2_lt hT.rest_small)))
  rw [Int.fdiv_eq_ediv_of_nonneg x hT.r0]
  exact h _ ⟨rfl⟩
theorem step_tm1 {n o f fa c : Int} (hT : TurnIs n o f y fa c) (hd : DivOf f y x) (h : ∀ z, MulOf x y z → Q (.int z s.toks) { s with toks := s.toks + 1 }) : wpAny (model prog w) A (binaryOp .Mult (.int x t) (.int y u)) Q E s := by
  have b1 : Builtin.Int.intBits x ≤ 4096 := intBits_le_iff.mpr (by rw [hd.eq]; exact hT.times_small)
  have b2 : Builtin.Int.intBits y ≤ 4096 := intBits_le_iff.mpr hT.rest_small
  exact PyProof.Rows.mul_int (h _ ⟨rfl⟩) (PySem.IntMulOk.of_le b1 b2 (by decide))
theorem step_tm2 {n o f r fa : Int} (hT : TurnIs n o f r fa y) (hd : DivOf f r x) (h : ∀ z, MulOf x y z → Q (.int z s.toks) { s with toks := s.toks + 1 }) : wpAny (model prog w) A (binaryOp .Mult (.int x t) (.int y u)) Q E s := by
  have b1 : Builtin.Int.intBits x ≤ 4096 := intBits_le_iff.mpr (by rw [hd.eq]; exact hT.times_small)
  have b2 : Builtin.Int.intBits y ≤ 4096 := intBits_le_iff.mpr hT.closer_small
  exact PyProof.Rows.mul_int (h _ ⟨rfl⟩) (PySem.IntMulOk.of_le b1 b2 (by decide))
theorem step_tmod {n f r c : Int} (hT : TurnIs n y f r x c) (h : ∀ z, ModOf x y z → Q (.int z s.toks) { s with toks := s.toks + 1 }) : wpAny (model prog w) A (binaryOp .Mod (.int x t) (.int y u)) Q E s := by
  have := hT.o0
  refine PyProof.Rows.mod_int (by omega) ?_
  rw [Int.fmod_eq_emod_of_nonneg x (by omega)]
  exact h _ ⟨rfl⟩
end
end My
namespace My
open PySem PySem.W
theorem two_lists {a b : List Int} (h : PySem.Challenge.rw_longreckon_s05_turn.pre [ofPy (PyData.list (a.map PyData.int)), ofPy (PyData.list (b.map PyData.int))] = true) : a.length ≤ 64 ∧ InW a ∧ b.length ≤ 64 ∧ InW b := (two_lists_of (os_pre_isSome h)).2
theorem two_end {a b : List Int} {d : WData} (h : PySem.Challenge.rw_longreckon_s05_turn.pre [ofPy (PyData.list (a.map PyData.int)), ofPy (PyData.list (b.map PyData.int))] = true) (e : same d (.list ((PySv22.turn a b).map WData.int)) = true) :
    PySem.Challenge.rw_longreckon_s05_turn.post [ofPy (PyData.list (a.map PyData.int)), ofPy (PyData.list (b.map PyData.int))] d = true := os_post (two_lists_of (os_pre_isSome h)).1 e
theorem turn_no {a b : List Int} (h : PySem.Challenge.rw_longreckon_s05_turn.pre [ofPy (PyData.list (a.map PyData.int)), ofPy (PyData.list (b.map PyData.int))] = true) (hl : ¬ 1 ≤ (a.length : Int) ∨ ¬ 1 ≤ (b.length : Int)) :
    PySem.Challenge.rw_longreckon_s05_turn.post [ofPy (PyData.list (a.map PyData.int)), ofPy (PyData.list (b.map PyData.int))] (ofPy (PyData.list [PyData.int (-2)])) = true := by
  refine two_end h ?_
  rw [turn_bad (by omega)]
  exact os_same_list rfl
theorem turn_nz {a b : List Int} {y : Int} (h : PySem.Challenge.rw_longreckon_s05_turn.pre [ofPy (PyData.list (a.map PyData.int)), ofPy (PyData.list (b.map PyData.int))] = true) (hy : NumIs b.reverse y) (z : y = 0) :
    PySem.Challenge.rw_longreckon_s05_turn.post [ofPy (PyData.list (a.map PyData.int)), ofPy (PyData.list (b.map PyData.int))] (ofPy (PyData.list [PyData.int (-2)])) = true := by
  obtain ⟨m1, i1, m2, i2⟩ := two_lists h
  refine two_end h ?_
  rw [turn_zero i2 (by rw [← num_is hy]; exact z)]
  exact os_same_list rfl
theorem turn_five {a b : List Int} {x y f r : Int} (h : PySem.Challenge.rw_longreckon_s05_turn.pre [ofPy (PyData.list (a.map PyData.int)), ofPy (PyData.list (b.map PyData.int))] = true)
    (hx : NumIs a.reverse x) (hy : NumIs b.reverse y) (hg : GcdIs x y f r) (nz : ¬ y = 0) (hz : r = 0) (hf : ¬ f = 1) (a1 : 1 ≤ (a.length : Int)) (b1 : 1 ≤ (b.length : Int)) :
    PySem.Challenge.rw_longreckon_s05_turn.post [ofPy (PyData.list (a.map PyData.int)), ofPy (PyData.list (b.map PyData.int))] (ofPy (PyData.list [PyData.int (-5)])) = true := by
  obtain ⟨m1, i1, m2, i2⟩ := two_lists h
  refine two_end h ?_
  have e := g_end hg hz
  rw [turn_not i1 i2 (by omega) m1 (by omega) m2 (by rw [← num_is hy]; exact nz) (by rw [← num_is hy, ← num_is hx]; omega)]
  exact os_same_list rfl
theorem turn_end {a b row : List Int} {x y f r f2 r2 fa c z rest : Int} (h : PySem.Challenge.rw_longreckon_s05_turn.pre [ofPy (PyData.list (a.map PyData.int)), ofPy (PyData.list (b.map PyData.int))] = true)
    (hx : NumIs a.reverse x) (hy : NumIs b.reverse y) (hg : GcdIs x y f r) (hT : TurnIs x y f2 r2 fa c) (hm : ModOf fa y z) (hr : RowIs z row rest) (hz : r = 0) (hf : f = 1) (hz2 : r2 = 0) (a1 : 1 ≤ (a.length : Int)) (b1 : 1 ≤ (b.length : Int)) (l2 : (row.length : Int) = b.length) :
    PySem.Challenge.rw_longreckon_s05_turn.post [ofPy (PyData.list (a.map PyData.int)), ofPy (PyData.list (b.map PyData.int))] (WData.list (ofPys (([0] ++ row).map PyData.int))) = true := by
  obtain ⟨m1, i1, m2, i2⟩ := two_lists h
  refine two_end h (same_list ?_)
  have e := row_end hr (k := b.length) (by omega)
  have g := g_end hg hz
  obtain ⟨z0, z1, z2⟩ := t_end hT hz2 (by omega) hm.eq
  rw [num_is hx, num_is hy] at z2
  rw [num_is hy] at z1
  rw [turn_val i1 i2 (by omega) m1 (by omega) m2 z0 z1 z2, e]
  rfl
end My
open PySem PySem.W PyProof.Rows
local macro_rules | `(tactic| walk_at "binaryOp LShift int int") => `(tactic| (k_here; (with_reducible show wpAny _ _ (binaryOp Operator.LShift (Value.int _ _) (Value.int 64 _)) _ _ _); k_dflt (refine' My.step_shl ?k1 ?_; (case k1 => assumption)); intro z' hz'))
local macro_rules | `(tactic| walk_at "binaryOp BitOr int int") => `(tactic| (k_here; (with_reducible show wpAny _ _ (binaryOp Operator.BitOr (Value.int _ _) (Value.int _ _)) _ _ _); k_dflt (refine' My.step_or ?k0 ?k1 ?k2 ?k3 ?_; (case k0 => assumption); (case k1 => assumption); (case k2 => assumption); (case k3 => assumption)); intro z' hz'))
local macro_rules | `(tactic| walk_at "binaryOp BitAnd int int") => `(tactic| (k_here; (with_reducible show wpAny _ _ (binaryOp Operator.BitAnd (Value.int _ _) (Value.int 18446744073709551615 _)) _ _ _); k_dflt (refine My.step_and ?_); intro z' hz'))
local macro_rules | `(tactic| walk_at "binaryOp RShift int int") => `(tactic| (k_here; (with_reducible show wpAny _ _ (binaryOp Operator.RShift (Value.int _ _) (Value.int 64 _)) _ _ _); k_dflt (refine My.step_shr ?_); intro z' hz'))
local macro_rules | `(tactic| walk_at "binaryOp Mult int int") => `(tactic| (k_here; (with_reducible show wpAny _ _ (binaryOp Operator.Mult (Value.int _ _) (Value.int _ _)) _ _ _); k_dflt (refine' My.step_mul ?k1 ?k2 ?_; (case k1 => assumption); (case k2 => assumption)); intro z' hz'))
local macro_rules | `(tactic| walk_at "binaryOp FloorDiv int int") => `(tactic| (k_here; (with_reducible show wpAny _ _ (binaryOp Operator.FloorDiv (Value.int _ _) (Value.int _ _)) _ _ _); k_dflt (refine' My.step_fdiv ?k1 ?k2 ?k3 ?_; (case k1 => assumption); (case k2 => assumption); (case k3 => first | assumption | omega)); intro z' hz'))
local macro_rules | `(tactic| walk_at "binaryOp Mod int int") => `(tactic| (k_here; (with_reducible show wpAny _ _ (binaryOp Operator.Mod (Value.int _ _) (Value.int _ _)) _ _ _); k_dflt (refine' My.step_fmod ?k1 ?k2 ?k3 ?_; (case k1 => assumption); (case k2 => assumption); (case k3 => first | assumption | omega)); intro z' hz'))
local macro_rules | `(tactic| walk_at "pyIter ref") => `(tactic| (k_here; (with_reducible show wpAny _ _ (pyIter (Value.ref _)) (fun it s₂ => LoopAtV _ _ _ _ _ _ _ _ _ it s₂) _ _); (rename Fr _ _ _ _ => lF'); (rename News _ _ _ _ => lN'); k_dflt (refine' My.rev_state (y := Str.ofString "number") My.NumIs ?k0 ?k1 ?k2 lF' lN' ?k3 ?k4 My.num_start ?_ ?_; (case k0 => rfl); (case k1 => assumption); (case k2 => assumption); (case k3 => k_all); (case k4 => rfl)); (all_goals (try clear lF' lN')); rotate_left 1; (rintro ⟨kC1, kC2⟩ kU kH kTk kInv kFr kNews; (try dsimp only [kstB] at kFr); (try dsimp only at kInv); (have kMark := kstMark)); rotate_left 1; (rintro ⟨kC1, kC2⟩ kPre kPost kN kT kU kH kTk kOwn kEq kMem kLt kOff kInv kFr kNews; (try dsimp only [kstB] at kFr); (try dsimp only at kInv); (try simp only [List.nil_append, List.cons_append, List.append_nil] at kNews); (try dsimp only at kOff); (try simp only [List.map_cons, List.map_nil] at kOff); (have kMark := kstMark)); (all_goals (try k_fold))))
local macro_rules | `(tactic| walk_at "call builtin:list.append") => `(tactic| (k_here; (with_reducible show wpAny _ _ (call (Value.builtin _) [Value.ref _, _]) _ _ _); (rename KstMark => myMk); k_dflt (refine' append_K ?k1 ?k2 ?k3 ?_ ?z; (case k1 => k_asm); (case k2 => k_asm); (case k3 => k_upd); (case z => ((try simp only [List.size_toArray, Array.size_append, List.length_append, List.length_cons, List.length_nil, PySem.sizeLine_eq]); omega)); k_whole); intro myh myF myN; (try k_sweep)))
local macro_rules | `(tactic| walk_at "binaryOp Mod int int") => `(tactic| (k_here; (with_reducible show wpAny _ _ (binaryOp Operator.Mod (Value.int _ _) (Value.int _ _)) _ _ _); k_dflt (refine' My.step_gmod ?k1 ?k2 ?_; (case k1 => assumption); (case k2 => first | assumption | omega)); intro z' hz'))
local macro_rules | `(tactic| walk_at "binaryOp FloorDiv int int") => `(tactic| (k_here; (with_reducible show wpAny _ _ (binaryOp Operator.FloorDiv (Value.int _ _) (Value.int _ _)) _ _ _); k_dflt (refine' My.step_tdiv ?k1 ?k2 ?_; (case k1 => assumption); (case k2 => first | assumption | omega)); intro z' hz'))
local macro_rules | `(tactic| walk_at "binaryOp Mult int int") => `(tactic| (k_here; (with_reducible show wpAny _ _ (binaryOp Operator.Mult (Value.int _ _) (Value.int _ _)) _ _ _); k_dflt (first | (refine' My.step_tm1 ?k1 ?k2 ?_; (case k1 => assumption); (case k2 => assumption)) | (refine' My.step_tm2 ?k1 ?k2 ?_; (case k1 => assumption); (case k2 => assumption))); intro z' hz'))
local macro_rules | `(tactic| walk_at "binaryOp Mod int int") => `(tactic| (k_here; (with_reducible show wpAny _ _ (binaryOp Operator.Mod (Value.int _ _) (Value.int _ _)) _ _ _); k_dflt (refine' My.step_tmod ?k1 ?_; (case k1 => assumption)); intro z' hz'))
set_option maxRecDepth 100000 in
set_option maxHeartbeats 8000000 in
theorem PySem.Challenge.cw_longreckon_s05_turn_holds : PySem.Challenge.rw_longreckon_s05_turn.Holds := by
  k_with "state" => first
    | exact My.num_turn (by assumption) (by assumption) (by assumption) (by assumption) (by assumption) (by assumption)
    | exact My.w_start (by omega) (by omega)
    | exact My.w_turn (by assumption) (by assumption) (by assumption) (by omega) (by omega)
    | exact My.gw_start (by assumption) (by assumption)
    | exact My.gw_turn (by assumption) (by assumption) (by omega)
    | exact My.tw_start (by assumption) (by assumption) (by assumption) (by omega)
    | exact My.tw_turn (by assumption) (by assumption) (by assumption) (by assumption) (by omega)
  k_with "measure" => first
    | exact My.w_less (by omega)
    | exact My.gw_less (by assumption) (by assumption) (by omega)
    | exact My.tw_less (by assumption) (by assumption) (by assumption) (by omega)
  k_with "exec While Compare cons nil" => first
    | k_while_given ["number", "length"] (fun number length _ row rest => (row.length : Int) ≤ length ∧ length ≤ 128 ∧ My.RowIs number row rest) (fun _ length _ row _ => (length - (row.length : Int)).toNat) "row" "rest"
    | k_while_given ["one", "other"] (fun one other _ found rest => My.GcdIs one other found rest) (fun _ _ _ _ rest => rest.toNat) "found" "rest"
    | k_while_given ["number", "over"] (fun number over _ found rest factor closer => My.TurnIs number over found rest factor closer) (fun _ _ _ _ rest _ _ => rest.toNat) "found" "rest" "factor" "closer"
  open_ks0 with [.list [], .list []]
  rename OpenSpec.pre _ _ = true => hpre
  have inw := My.two_lists hpre
  obtain ⟨most1, inw1, most2, inw2⟩ := inw
  ks_steps
  all_goals first
    | exact My.turn_no hpre (by omega)
    | exact My.turn_nz hpre (by assumption) (by omega)
    | exact My.turn_five hpre (by assumption) (by assumption) (by assumption) (by omega) (by omega) (by omega) (by omega) (by omega)
    | exact My.turn_end hpre (by assumption) (by assumption) (by assumption) (by assumption) (by assumption) (by assumption) (by omega) (by omega) (by omega) (by omega) (by omega) (by omega)
#print axioms PySem.Challenge.cw_longreckon_s05_turn_holds
