import PyProof.Rows.All
import KE.OsGo
import KE.OsMore
import PySem.Challenge.RW_longreckon_s08_read
open PySem PySem.W
set_option Elab.async false
set_option maxHeartbeats 4000000
namespace My
def BW : Int := 18446744073709551616
def numOf (l : List Int) : Int := l.foldr (fun x n => n * 18446744073709551616 + x) 0
def InW (l : List Int) : Prop := ∀ x ∈ l, 0 ≤ x ∧ x ≤ 18446744073709551615
def rowI (k : Nat) (n : Int) : List Int := (List.range k).map fun i => n / 2 ^ (64 * i) % 18446744073709551616

theorem num_nat : ∀ (l : List Int), InW l → numOf l = ((Sv22.valueOf (Sv22Neutral.nats l) : Nat) : Int)
  | [], _ => rfl
  | x :: r, h => by
    have hx := h x (List.mem_cons_self ..)
    have ih := num_nat r (fun y hy => h y (List.mem_cons_of_mem _ hy))
    have e1 : numOf (x :: r) = numOf r * 18446744073709551616 + x := rfl
    have e2 : Sv22.valueOf (Sv22Neutral.nats (x :: r)) = x.toNat % 2 ^ 64 + 2 ^ 64 * Sv22.valueOf (Sv22Neutral.nats r) := rfl
    rw [e1, e2, ih]
    have e3 : (2 : Nat) ^ 64 = 18446744073709551616 := by decide
    rw [e3]
    omega
theorem value_lt : ∀ (l : List Nat), Sv22.valueOf l < 2 ^ (64 * l.length)
  | [] => by decide
  | x :: r => by
    have ih := value_lt r
    have e2 : Sv22.valueOf (x :: r) = x % 2 ^ 64 + 2 ^ 64 * Sv22.valueOf r := rfl
    have e4 : 64 * (x :: r).length = 64 * r.length + 64 := by simp only [List.length_cons]; omega
    rw [e2, e4, Nat.pow_add]
    have hx : x % 2 ^ 64 < 2 ^ 64 := Nat.mod_lt _ (by decide)
    have e3 : (2 : Nat) ^ 64 = 18446744073709551616 := by decide
    rw [e3] at *
    omega
theorem num_nonneg {l : List Int} (h : InW l) : 0 ≤ numOf l := by
  rw [num_nat l h]; exact Int.natCast_nonneg _
theorem nats_len (l : List Int) : (Sv22Neutral.nats l).length = l.length := by unfold Sv22Neutral.nats; simp
theorem num_natAbs_lt {l : List Int} (h : InW l) : (numOf l).natAbs < 2 ^ (64 * l.length) := by
  rw [num_nat l h, Int.natAbs_natCast]
  have := value_lt (Sv22Neutral.nats l)
  rw [nats_len] at this
  exact this
theorem row_nat (k n : Nat) : rowI k (n : Int) = (Sv22.wordsOf k n).map (fun (x : Nat) => (x : Int)) := by
  unfold rowI Sv22.wordsOf
  rw [List.map_map]
  refine List.map_congr_left fun i _ => ?_
  show (n : Int) / 2 ^ (64 * i) % 18446744073709551616 = ((n / 2 ^ (64 * i) % 2 ^ 64 : Nat) : Int)
  have e3 : (2 : Nat) ^ 64 = 18446744073709551616 := by decide
  rw [e3, Int.natCast_emod, Int.natCast_ediv, Int.natCast_pow]
  rfl
theorem row_succ (k : Nat) (n : Int) : rowI (k + 1) n = rowI k n ++ [n / 2 ^ (64 * k) % 18446744073709551616] := by
  unfold rowI
  rw [List.range_succ, List.map_append]
  rfl
theorem row_len (k : Nat) (n : Int) : (rowI k n).length = k := by unfold rowI; simp
theorem next_div (k : Nat) (n : Int) : n / 2 ^ (64 * k) / 18446744073709551616 = n / 2 ^ (64 * (k + 1)) := by
  have e : (2 : Int) ^ (64 * (k + 1)) = 2 ^ (64 * k) * 18446744073709551616 := by
    have : 64 * (k + 1) = 64 * k + 64 := by omega
    rw [this, Int.pow_add]
    rfl
  rw [e]
  exact Int.ediv_ediv_of_nonneg (Int.pow_nonneg (by decide))
end My
namespace My
structure RowIs (number : Int) (row : List Int) (rest : Int) : Prop where
  eq : row = rowI row.length number
  rst : rest = number / 2 ^ (64 * row.length)
theorem row_start (number : Int) : RowIs number [] number := ⟨rfl, by
  show number = number / 2 ^ 0
  rw [Int.pow_zero, Int.ediv_one]⟩
theorem row_turn {number rest : Int} {row : List Int} (h : RowIs number row rest) : RowIs number (row ++ [rest % 18446744073709551616]) (rest / 18446744073709551616) := by
  have l : (row ++ [rest % 18446744073709551616]).length = row.length + 1 := by simp
  refine ⟨?_, ?_⟩
  · rw [l, row_succ, ← h.eq, ← h.rst]
  · rw [l, ← next_div, ← h.rst]
theorem row_end {number rest : Int} {row : List Int} {k : Nat} (h : RowIs number row rest) (hl : row.length = k) : row = rowI k number := by
  rw [← hl]; exact h.eq
theorem size_true {n : Nat} (h1 : 1 ≤ n) (h2 : n ≤ 64) : Sv22.size (n : Int) = true := by
  unfold Sv22.size Sv22.within
  simp only [Bool.and_eq_true, decide_eq_true_eq]
  omega
theorem size_false {n : Nat} (h1 : n = 0) : Sv22.size (n : Int) = false := by
  subst h1; rfl
def ans (y : Sv22.Ans) : List Int := y.v :: y.l.map fun (x : Nat) => (x : Int)
theorem mul_eq (a b : List Int) : PySv22.mul a b = ans (if (Sv22.size (a.length : Int) && Sv22.size (b.length : Int)) = false then Sv22.ok (-2)
    else ⟨0, Sv22.wordsOf ((Sv22Neutral.nats a).length + (Sv22Neutral.nats b).length) (Sv22.valueOf (Sv22Neutral.nats a) * Sv22.valueOf (Sv22Neutral.nats b))⟩) := rfl
theorem div_eq (a b : List Int) : PySv22.div a b = ans (if (Sv22.size (a.length : Int) && Sv22.size (b.length : Int)) = false ∨ Sv22.valueOf (Sv22Neutral.nats b) = 0 then Sv22.ok (-2)
    else ⟨0, Sv22.wordsOf (Sv22Neutral.nats a).length (Sv22.valueOf (Sv22Neutral.nats a) / Sv22.valueOf (Sv22Neutral.nats b)) ++ Sv22.wordsOf (Sv22Neutral.nats b).length (Sv22.valueOf (Sv22Neutral.nats a) % Sv22.valueOf (Sv22Neutral.nats b))⟩) := rfl
theorem mul_val {a b : List Int} (ha : InW a) (hb : InW b) (a1 : 1 ≤ a.length) (a2 : a.length ≤ 64) (b1 : 1 ≤ b.length) (b2 : b.length ≤ 64) :
    PySv22.mul a b = 0 :: rowI (a.length + b.length) (numOf a * numOf b) := by
  rw [mul_eq, size_true a1 a2, size_true b1 b2, num_nat a ha, num_nat b hb, ← Int.natCast_mul, row_nat, nats_len, nats_len]
  rfl
theorem mul_bad {a b : List Int} (h : a.length = 0 ∨ b.length = 0) : PySv22.mul a b = [-2] := by
  rw [mul_eq, if_pos]
  · rfl
  · rcases h with h | h
    · rw [size_false h]; rfl
    · rw [size_false h, Bool.and_false]
theorem div_val {a b : List Int} (ha : InW a) (hb : InW b) (a1 : 1 ≤ a.length) (a2 : a.length ≤ 64) (b1 : 1 ≤ b.length) (b2 : b.length ≤ 64) (nz : numOf b ≠ 0) :
    PySv22.div a b = 0 :: (rowI a.length (numOf a / numOf b) ++ rowI b.length (numOf a % numOf b)) := by
  have hz : ¬ Sv22.valueOf (Sv22Neutral.nats b) = 0 := by
    intro h; rw [num_nat b hb, h] at nz; exact nz rfl
  rw [div_eq, size_true a1 a2, size_true b1 b2, num_nat a ha, num_nat b hb, ← Int.natCast_ediv, ← Int.natCast_emod, row_nat, row_nat, nats_len, nats_len, if_neg (by simp [hz])]
  unfold ans
  rw [List.map_append]
theorem div_bad {a b : List Int} (h : a.length = 0 ∨ b.length = 0) : PySv22.div a b = [-2] := by
  rw [div_eq, if_pos]
  · rfl
  · rcases h with h | h
    · rw [size_false h]; exact .inl rfl
    · rw [size_false h, Bool.and_false]; exact .inl rfl
theorem div_zero {a b : List Int} (hb : InW b) (z : numOf b = 0) : PySv22.div a b = [-2] := by
  rw [div_eq, if_pos]
  · rfl
  · right
    rw [num_nat b hb] at z
    exact Int.ofNat.inj z
end My
namespace My
/-! Texts. -/
theorem log_lt'' (n : Nat) : n < 2 ^ (n.log2 + 1) := by
  by_cases h : n = 0
  · subst h; decide
  · exact (Nat.log2_lt h).mp (Nat.lt_succ_self _)
theorem digits_fuel {base : Nat} (hb : 2 ≤ base) : ∀ (f g n : Nat), n < 2 ^ f → n < 2 ^ g → 0 < f → 0 < g → Sv22.digits f base n = Sv22.digits g base n
  | f + 1, g + 1, n, hf, hg, _, _ => by
    unfold Sv22.digits
    by_cases c : n < base
    · rw [if_pos c, if_pos c]
    · rw [if_neg c, if_neg c]
      have h1 : n / base ≤ n / 2 := Nat.div_le_div_left hb (by decide)
      have h2 : 1 ≤ n / base := Nat.div_pos (by omega) (by omega)
      rw [Nat.pow_succ] at hf hg
      have hf0 : 0 < f := by
        rcases Nat.eq_zero_or_pos f with z | z
        · subst z; omega
        · exact z
      have hg0 : 0 < g := by
        rcases Nat.eq_zero_or_pos g with z | z
        · subst z; omega
        · exact z
      rw [digits_fuel hb f g (n / base) (by omega) (by omega) hf0 hg0]
theorem text_small {base n : Nat} (h : n < base) : Sv22.text base n = [Sv22.digit n] := by
  unfold Sv22.text Sv22.digits
  rw [if_pos h]
theorem text_step {base n : Nat} (hb : 2 ≤ base) (h : base ≤ n) : Sv22.text base n = Sv22.text base (n / base) ++ [Sv22.digit (n % base)] := by
  have e : Sv22.text base n = Sv22.digits (n.log2 + 1) base n := rfl
  rw [e]
  unfold Sv22.digits
  rw [if_neg (by omega)]
  congr 1
  have hl := log_lt'' n
  rw [Nat.pow_succ] at hl
  have h1 : n / base ≤ n / 2 := Nat.div_le_div_left hb (by decide)
  refine digits_fuel hb _ _ _ (by omega) (log_lt'' _) ?_ (Nat.succ_pos _)
  rcases Nat.eq_zero_or_pos n.log2 with z | z
  · rw [z] at hl; omega
  · exact z
theorem text_len_le {base : Nat} (hb : 2 ≤ base) : ∀ (k n : Nat), n < 2 ^ (k + 1) → (Sv22.text base n).length ≤ k + 1
  | 0, n, h => by
    rw [text_small (by omega)]
    exact Nat.le_refl 1
  | k + 1, n, h => by
    by_cases c : n < base
    · rw [text_small c]; simp
    · rw [text_step hb (by omega), List.length_append]
      have h1 : n / base ≤ n / 2 := Nat.div_le_div_left hb (by decide)
      rw [Nat.pow_succ] at h
      have := text_len_le hb k (n / base) (by omega)
      simp only [List.length_cons, List.length_nil]
      omega
/-- What stands ahead, then the digits behind it: of 0 nothing. -/
def front (base n : Nat) : List Nat := if n = 0 then [] else Sv22.text base n
theorem front_step {base n : Nat} (hb : 2 ≤ base) (h : 0 < n) : front base n = front base (n / base) ++ [Sv22.digit (n % base)] := by
  unfold front
  rw [if_neg (by omega)]
  by_cases c : n < base
  · rw [text_small c, Nat.div_eq_of_lt c, if_pos rfl, Nat.mod_eq_of_lt c]; rfl
  · rw [text_step hb (by omega), if_neg]
    have : 1 ≤ n / base := Nat.div_pos (by omega) (by omega)
    omega
/-! Reading. -/
def digOf (base c : Nat) : Option Nat := (Sv22.digitOf c).bind fun d => if d < base then some d else none
theorem read_nil (base : Nat) : Sv22.read base [] = none := rfl
theorem read_cons {base c : Nat} {t : List Nat} : Sv22.read base (c :: t) = ((c :: t).mapM (digOf base)).map fun l => l.foldl (fun n d => base * n + d) 0 := by
  unfold Sv22.read
  rw [if_neg (by simp)]
  rfl
theorem read_bad {base : Nat} : ∀ {t : List Nat} {c : Nat}, c ∈ t → digOf base c = none → Sv22.read base t = none := by
  intro t c hc hd
  match t, hc with
  | x :: r, hc =>
    rw [read_cons]
    suffices h : (x :: r).mapM (digOf base) = none by rw [h]; rfl
    revert hc
    generalize x :: r = l
    intro hc
    induction l with
    | nil => cases hc
    | cons y s ih =>
      rw [List.mapM_cons]
      cases hy : digOf base y with
      | none => rfl
      | some d =>
        rcases List.mem_cons.mp hc with e | e
        · subst e; rw [hd] at hy; cases hy
        · have := ih e
          show (List.mapM (digOf base) s).bind _ = none
          rw [this]; rfl
theorem mapM_good {base : Nat} {g : Nat → Nat} : ∀ {t : List Nat}, (∀ c ∈ t, digOf base c = some (g c)) → t.mapM (digOf base) = some (t.map g)
  | [], _ => rfl
  | x :: r, h => by
    rw [List.mapM_cons]
    have hx := h x (List.mem_cons_self ..)
    have hr := mapM_good (t := r) fun c hc => h c (List.mem_cons_of_mem _ hc)
    show (digOf base x).bind _ = _
    rw [hx]
    show (List.mapM (digOf base) r).bind _ = _
    rw [hr]
    rfl
theorem read_good {base : Nat} {g : Nat → Nat} {t : List Nat} (h0 : t ≠ []) (h : ∀ c ∈ t, digOf base c = some (g c)) : Sv22.read base t = some ((t.map g).foldl (fun n d => base * n + d) 0) := by
  match t, h0 with
  | x :: r, _ =>
    rw [read_cons, mapM_good h]
    rfl
/-- How many words a number takes: at most k just where it's below 2 ^ (64 k). -/
theorem long_le (n k : Nat) : Sv22.long n ≤ k ↔ n < 2 ^ (64 * k) := by
  unfold Sv22.long
  by_cases h : n = 0
  · subst h
    rw [if_pos rfl]
    exact ⟨fun _ => Nat.two_pow_pos _, fun _ => Nat.zero_le _⟩
  · rw [if_neg h, ← Nat.log2_lt h]
    omega
end My
namespace My
theorem base_ok {z : Int} : Sv22.baseOk z = true ↔ (2 ≤ z ∧ z ≤ 36) := by unfold Sv22.baseOk Sv22.within; simp
theorem size_iff {z : Int} : Sv22.size z = true ↔ (1 ≤ z ∧ z ≤ 65536) := by unfold Sv22.size Sv22.within; simp
theorem in_iff {z a b : Int} : Sv22.within z a b = true ↔ (a ≤ z ∧ z ≤ b) := by unfold Sv22.within; simp
theorem text_eq (base most : Int) (a : List Int) : PySv22.text base most a = ans (if (Sv22.size (a.length : Int) && (Sv22.baseOk base && Sv22.within most 0 4194304)) = false then Sv22.ok (-2)
    else if most < ((Sv22.text base.toNat (Sv22.valueOf (Sv22Neutral.nats a))).length : Int) then Sv22.ok (-7) else ⟨((Sv22.text base.toNat (Sv22.valueOf (Sv22Neutral.nats a))).length : Int), Sv22.text base.toNat (Sv22.valueOf (Sv22Neutral.nats a))⟩) := rfl
theorem text_bad {base most : Int} {a : List Int} (h : ¬ (1 ≤ a.length ∧ a.length ≤ 65536 ∧ 2 ≤ base ∧ base ≤ 36 ∧ 0 ≤ most ∧ most ≤ 4194304)) : PySv22.text base most a = [-2] := by
  rw [text_eq, if_pos]
  · rfl
  · cases e : (Sv22.size (a.length : Int) && (Sv22.baseOk base && Sv22.within most 0 4194304)) with
    | false => rfl
    | true =>
      simp only [Bool.and_eq_true, size_iff, base_ok, in_iff] at e
      omega
/-- The text, as whole numbers. -/
def textI (base n : Int) : List Int := (Sv22.text base.toNat n.toNat).map fun (x : Nat) => (x : Int)
theorem text_good {base most : Int} {a : List Int} (ha : InW a) (a1 : 1 ≤ a.length) (a2 : a.length ≤ 64) (b1 : 2 ≤ base) (b2 : base ≤ 36) (m1 : 0 ≤ most) (m2 : most ≤ 4194304) :
    PySv22.text base most a = if most < ((textI base (numOf a)).length : Int) then [-7] else ((textI base (numOf a)).length : Int) :: textI base (numOf a) := by
  have e1 : Sv22.baseOk base = true := base_ok.mpr ⟨b1, b2⟩
  have e2 : Sv22.within most 0 4194304 = true := in_iff.mpr ⟨m1, m2⟩
  have l : (textI base (numOf a)).length = (Sv22.text base.toNat (Sv22.valueOf (Sv22Neutral.nats a))).length := by
    unfold textI
    rw [List.length_map, num_nat a ha, Int.toNat_natCast]
  rw [text_eq, size_true a1 a2, e1, e2, if_neg (by decide), l]
  by_cases c : most < ((Sv22.text base.toNat (Sv22.valueOf (Sv22Neutral.nats a))).length : Int)
  · rw [if_pos c, if_pos c]; rfl
  · rw [if_neg c, if_neg c]
    unfold ans textI
    rw [num_nat a ha, Int.toNat_natCast]
def digitI (d : Int) : Int := if d < 10 then 48 + d else 87 + d
theorem textI_small {base n : Int} (h0 : 0 ≤ n) (h : n < base) : textI base n = [digitI n] := by
  unfold textI
  rw [text_small (by omega)]
  unfold Sv22.digit digitI
  by_cases c : n < 10
  · rw [if_pos c, if_pos (by omega)]
    show [((48 + n.toNat : Nat) : Int)] = _
    congr 1
    omega
  · rw [if_neg c, if_neg (by omega)]
    show [((87 + n.toNat : Nat) : Int)] = _
    congr 1
    omega
theorem textI_step {base n : Int} (hb : 2 ≤ base) (h : base ≤ n) : textI base n = textI base (n / base) ++ [digitI (n % base)] := by
  unfold textI
  have hm := Int.emod_nonneg n (show base ≠ 0 by omega)
  have e1 : (n / base).toNat = n.toNat / base.toNat := by
    obtain ⟨k, rfl⟩ : ∃ k : Nat, n = (k : Int) := ⟨n.toNat, by omega⟩
    obtain ⟨b, rfl⟩ : ∃ k : Nat, base = (k : Int) := ⟨base.toNat, by omega⟩
    rw [← Int.natCast_ediv]; rfl
  have e2 : (n % base).toNat = n.toNat % base.toNat := by
    obtain ⟨k, rfl⟩ : ∃ k : Nat, n = (k : Int) := ⟨n.toNat, by omega⟩
    obtain ⟨b, rfl⟩ : ∃ k : Nat, base = (k : Int) := ⟨base.toNat, by omega⟩
    rw [← Int.natCast_emod]; rfl
  rw [text_step (by omega) (by omega), List.map_append, e1, ← e2]
  congr 1
  unfold Sv22.digit digitI
  by_cases c : n % base < 10
  · rw [if_pos c, if_pos (by omega)]
    show [((48 + (n % base).toNat : Nat) : Int)] = _
    congr 1
    omega
  · rw [if_neg c, if_neg (by omega)]
    show [((87 + (n % base).toNat : Nat) : Int)] = _
    congr 1
    omega
theorem read_eq (base most : Int) (t : List Int) : PySv22.read base most t = ans (if (Sv22.size (t.length : Int) && (Sv22.baseOk base && Sv22.size most)) = false then Sv22.ok (-2)
    else match Sv22.read base.toNat (Sv22Neutral.nats t) with
      | none => Sv22.ok (-3)
      | some n => if most < (Sv22.long n : Int) then Sv22.ok (-7) else ⟨0, Sv22.wordsOf most.toNat n⟩) := rfl
theorem read_bad2 {base most : Int} {t : List Int} (h : ¬ (1 ≤ t.length ∧ t.length ≤ 65536 ∧ 2 ≤ base ∧ base ≤ 36 ∧ 1 ≤ most ∧ most ≤ 65536)) : PySv22.read base most t = [-2] := by
  rw [read_eq, if_pos]
  · rfl
  · cases e : (Sv22.size (t.length : Int) && (Sv22.baseOk base && Sv22.size most)) with
    | false => rfl
    | true =>
      simp only [Bool.and_eq_true, size_iff, base_ok] at e
      omega
def digI (base c : Int) : Option Int := (digOf base.toNat c.toNat).map fun (x : Nat) => (x : Int)
theorem read_three {base most : Int} {t : List Int} {c : Int} (l1 : 1 ≤ t.length) (l2 : t.length ≤ 65536) (b1 : 2 ≤ base) (b2 : base ≤ 36) (m1 : 1 ≤ most) (m2 : most ≤ 65536) (hc : c ∈ t) (hd : digI base c = none) : PySv22.read base most t = [-3] := by
  have e0 : Sv22.size (t.length : Int) = true := size_iff.mpr (by omega)
  have e1 : Sv22.baseOk base = true := base_ok.mpr ⟨b1, b2⟩
  have e2 : Sv22.size most = true := size_iff.mpr ⟨m1, m2⟩
  have hn : digOf base.toNat c.toNat = none := by
    unfold digI at hd
    cases h : digOf base.toNat c.toNat with
    | none => rfl
    | some d => rw [h] at hd; cases hd
  have hr : Sv22.read base.toNat (Sv22Neutral.nats t) = none := read_bad (c := c.toNat) (List.mem_map.mpr ⟨c, hc, rfl⟩) hn
  rw [read_eq, e0, e1, e2, if_neg (by decide), hr]
  rfl
def readI (base : Int) (g : Int → Int) (t : List Int) : Int := t.foldl (fun n c => n * base + g c) 0
theorem read_fold {b : Nat} {g : Int → Int} : ∀ (t : List Int) (n : Nat), (∀ c ∈ t, 0 ≤ g c) → t.foldl (fun n c => n * (b : Int) + g c) (n : Int) = (((t.map fun c => (g c).toNat).foldl (fun n d => b * n + d) n : Nat) : Int)
  | [], _, _ => rfl
  | c :: r, n, h => by
    rw [List.foldl_cons, List.map_cons, List.foldl_cons]
    have hc := h c (List.mem_cons_self ..)
    have e : (n : Int) * (b : Int) + g c = ((b * n + (g c).toNat : Nat) : Int) := by
      rw [Int.natCast_add, Int.natCast_mul, Int.toNat_of_nonneg hc, Int.mul_comm]
    rw [e]
    exact read_fold r _ fun x hx => h x (List.mem_cons_of_mem _ hx)
theorem read_good2 {base most : Int} {g : Int → Int} {t : List Int} (l1 : 1 ≤ t.length) (l2 : t.length ≤ 65536) (b1 : 2 ≤ base) (b2 : base ≤ 36) (m1 : 1 ≤ most) (m2 : most ≤ 65536) (h0 : ∀ c ∈ t, 0 ≤ c) (hg : ∀ c ∈ t, digI base c = some (g c)) :
    PySv22.read base most t = if readI base g t < 2 ^ (64 * most.toNat) then 0 :: rowI most.toNat (readI base g t) else [-7] := by
  have e0 : Sv22.size (t.length : Int) = true := size_iff.mpr (by omega)
  have e1 : Sv22.baseOk base = true := base_ok.mpr ⟨b1, b2⟩
  have e2 : Sv22.size most = true := size_iff.mpr ⟨m1, m2⟩
  have gn : ∀ c ∈ t, 0 ≤ g c ∧ digOf base.toNat c.toNat = some (g c).toNat := by
    intro c hc
    have := hg c hc
    unfold digI at this
    cases h : digOf base.toNat c.toNat with
    | none => rw [h] at this; cases this
    | some d =>
      rw [h] at this
      have e : (d : Int) = g c := Option.some.inj this
      exact ⟨by omega, by rw [← e]; rfl⟩
  have hr := read_good (base := base.toNat) (g := fun (k : Nat) => (g (k : Int)).toNat) (t := Sv22Neutral.nats t) (by
    intro h
    have := nats_len t
    rw [h] at this
    simp at this
    omega) (by
    intro k hk
    obtain ⟨c, hc, rfl⟩ := List.mem_map.mp hk
    have hz := h0 c hc
    rw [Int.toNat_of_nonneg hz]
    exact (gn c hc).2)
  have hm : ((Sv22Neutral.nats t).map fun (k : Nat) => (g (k : Int)).toNat) = t.map fun c => (g c).toNat := by
    unfold Sv22Neutral.nats
    rw [List.map_map]
    refine List.map_congr_left fun c hc => ?_
    show (g ((c.toNat : Nat) : Int)).toNat = _
    rw [Int.toNat_of_nonneg (h0 c hc)]
  rw [hm] at hr
  have hf : readI base g t = (((t.map fun c => (g c).toNat).foldl (fun n d => base.toNat * n + d) 0 : Nat) : Int) := by
    unfold readI
    have := read_fold (b := base.toNat) t 0 (fun c hc => (gn c hc).1)
    rw [Int.toNat_of_nonneg (by omega)] at this
    exact this
  generalize (t.map fun c => (g c).toNat).foldl (fun n d => base.toNat * n + d) 0 = v at *
  rw [read_eq, e0, e1, e2, if_neg (by decide), hr, hf]
  dsimp only
  have hl := long_le v most.toNat
  have hp : ((v : Int) < 2 ^ (64 * most.toNat)) ↔ v < 2 ^ (64 * most.toNat) := by
    have : ((2 ^ (64 * most.toNat) : Nat) : Int) = 2 ^ (64 * most.toNat) := by rw [Int.natCast_pow]; rfl
    rw [← this]
    exact Int.ofNat_lt
  by_cases c : v < 2 ^ (64 * most.toNat)
  · rw [if_pos (hp.mpr c), if_neg (by have := hl.mpr c; omega), row_nat]
    rfl
  · rw [if_neg (fun h => c (hp.mp h)), if_pos (by
      have : ¬ Sv22.long v ≤ most.toNat := fun h => c (hl.mp h)
      omega)]
    rfl
end My
namespace My
/-! The loop of text: the digits told so far, the lowest first, and what is left. -/
def frontI (base n : Int) : List Int := if n = 0 then [] else textI base n
theorem div_pos' {base n : Int} (hb : 2 ≤ base) (c : base ≤ n) : 1 ≤ n / base := by
  have h : base * 1 ≤ n := by omega
  exact (Int.le_ediv_iff_mul_le (by omega)).mpr (by omega)
theorem frontI_step {base n : Int} (hb : 2 ≤ base) (h : 0 < n) : frontI base n = frontI base (n / base) ++ [digitI (n % base)] := by
  unfold frontI
  rw [if_neg (by omega)]
  by_cases c : n < base
  · rw [textI_small (by omega) c, Int.ediv_eq_zero_of_lt (by omega) c, if_pos rfl, Int.emod_eq_of_lt (by omega) c]
    rfl
  · rw [textI_step hb (by omega), if_neg]
    have := div_pos' hb (show base ≤ n by omega)
    omega
theorem half_lt {base n : Int} {k : Nat} (hb : 2 ≤ base) (h0 : 0 ≤ n) (h : n.toNat < 2 ^ (k + 1)) : (n / base).toNat < 2 ^ k ∧ 0 ≤ n / base := by
  have h1 : 0 ≤ n / base := Int.ediv_nonneg h0 (by omega)
  have h2 : base * (n / base) ≤ n := Int.mul_ediv_self_le (by omega)
  have h3 : 2 * (n / base) ≤ base * (n / base) := Int.mul_le_mul_of_nonneg_right hb h1
  rw [Nat.pow_succ] at h
  generalize 2 ^ k = p at h ⊢
  generalize n / base = q at *
  generalize base * q = r at *
  omega
structure TextIs (number base : Int) (told : List Int) (rest : Int) : Prop where
  eq : textI base number = frontI base rest ++ told.reverse
  r0 : 0 ≤ rest
  len : told.length ≤ 4096
  lt : rest.toNat < 2 ^ (4096 - told.length)
theorem t_first {number base : Int} (n0 : 0 ≤ number) (sm : number.natAbs < 2 ^ 4096) (b0 : 2 ≤ base) : TextIs number base [digitI (number % base)] (number / base) := by
  have hh := half_lt (k := 4095) b0 n0 (by have : number.toNat = number.natAbs := by omega
                                           rw [this]; exact sm)
  refine ⟨?_, hh.2, by simp, hh.1⟩
  by_cases c : number = 0
  · subst c
    rw [Int.zero_ediv, Int.zero_emod, textI_small (Int.le_refl 0) (by omega)]
    rfl
  · have e := frontI_step b0 (show 0 < number by omega)
    have e2 : frontI base number = textI base number := by
      unfold frontI
      rw [if_neg c]
    rw [e2] at e
    exact e
theorem t_next {number base rest : Int} {told : List Int} (h : TextIs number base told rest) (b0 : 2 ≤ base) (c : ¬ rest = 0) : TextIs number base (told ++ [digitI (rest % base)]) (rest / base) := by
  have r0 := h.r0
  have hl : told.length < 4096 := by
    by_cases z : told.length < 4096
    · exact z
    · have lt := h.lt
      have e : 4096 - told.length = 0 := by omega
      rw [e] at lt
      omega
  have lt := h.lt
  have e : 4096 - told.length = (4096 - (told.length + 1)) + 1 := by omega
  rw [e] at lt
  have hh := half_lt b0 r0 lt
  refine ⟨?_, hh.2, ?_, ?_⟩
  · rw [h.eq, frontI_step b0 (show 0 < rest by omega), List.reverse_append, List.append_assoc]
    rfl
  · rw [List.length_append]
    show told.length + 1 ≤ 4096
    omega
  · rw [List.length_append]
    exact hh.1
theorem t_last {number base rest : Int} {told : List Int} (h : TextIs number base told rest) (c : rest = 0) : told.reverse = textI base number := by
  rw [h.eq, c]
  rfl
theorem t_less {number base rest : Int} {told : List Int} (h : TextIs number base told rest) (b0 : 2 ≤ base) (c : ¬ rest = 0) : (rest / base).toNat < rest.toNat := by
  have r0 := h.r0
  have h1 : 0 ≤ rest / base := Int.ediv_nonneg r0 (by omega)
  have h2 : base * (rest / base) ≤ rest := Int.mul_ediv_self_le (by omega)
  have h3 : 2 * (rest / base) ≤ base * (rest / base) := Int.mul_le_mul_of_nonneg_right b0 h1
  generalize rest / base = q at *
  generalize base * q = r at *
  omega
/-! What a byte is worth. -/
def worth (c : Int) : Int := if 48 ≤ c ∧ c ≤ 57 then c - 48 else if 97 ≤ c ∧ c ≤ 122 then c - 97 + 10 else if 65 ≤ c ∧ c ≤ 90 then c - 65 + 10 else 99
theorem worth_num {c : Int} (h1 : 48 ≤ c) (h2 : c ≤ 57) : worth c = c - 48 := by unfold worth; rw [if_pos ⟨h1, h2⟩]
theorem worth_low {c : Int} (h1 : 97 ≤ c) (h2 : c ≤ 122) : worth c = c - 97 + 10 := by unfold worth; rw [if_neg (by omega), if_pos ⟨h1, h2⟩]
theorem worth_cap {c : Int} (h1 : 65 ≤ c) (h2 : c ≤ 90) : worth c = c - 65 + 10 := by unfold worth; rw [if_neg (by omega), if_neg (by omega), if_pos ⟨h1, h2⟩]
theorem worth_not {c : Int} (h1 : ¬ (48 ≤ c ∧ c ≤ 57)) (h2 : ¬ (97 ≤ c ∧ c ≤ 122)) (h3 : ¬ (65 ≤ c ∧ c ≤ 90)) : worth c = 99 := by unfold worth; rw [if_neg h1, if_neg h2, if_neg h3]
theorem worth_nn (c : Int) : 0 ≤ worth c := by
  unfold worth
  split
  · omega
  · split
    · omega
    · split
      · omega
      · omega
theorem dig_is {base c : Int} (b2 : base ≤ 36) (h0 : 0 ≤ c) : digI base c = if worth c < base then some (worth c) else none := by
  obtain ⟨k, rfl⟩ : ∃ k : Nat, c = (k : Int) := ⟨c.toNat, by omega⟩
  unfold digI digOf Sv22.digitOf
  rw [Int.toNat_natCast]
  by_cases c1 : 48 ≤ k ∧ k ≤ 57
  · rw [if_pos c1, worth_num (by omega) (by omega)]
    dsimp only [Option.bind_some]
    by_cases d : k - 48 < base.toNat
    · rw [if_pos d, if_pos (by omega), Option.map_some]
      congr 1
      omega
    · rw [if_neg d, if_neg (by omega)]
      rfl
  · rw [if_neg c1]
    by_cases c2 : 97 ≤ k ∧ k ≤ 122
    · rw [if_pos c2, worth_low (by omega) (by omega)]
      dsimp only [Option.bind_some]
      by_cases d : k - 87 < base.toNat
      · rw [if_pos d, if_pos (by omega), Option.map_some]
        congr 1
        omega
      · rw [if_neg d, if_neg (by omega)]
        rfl
    · rw [if_neg c2]
      by_cases c3 : 65 ≤ k ∧ k ≤ 90
      · rw [if_pos c3, worth_cap (by omega) (by omega)]
        dsimp only [Option.bind_some]
        by_cases d : k - 55 < base.toNat
        · rw [if_pos d, if_pos (by omega), Option.map_some]
          congr 1
          omega
        · rw [if_neg d, if_neg (by omega)]
          rfl
      · rw [if_neg c3, worth_not (by omega) (by omega) (by omega), if_neg (by omega)]
        rfl
structure AllDig (base : Int) (pre : List Int) : Prop where
  lt : ∀ c ∈ pre, worth c < base
theorem ad_start (base : Int) : AllDig base [] := ⟨fun _ h => nomatch h⟩
theorem ad_turn {base c : Int} {pre : List Int} (h : AllDig base pre) (d : worth c < base) : AllDig base (pre ++ [c]) := by
  refine ⟨fun x hx => ?_⟩
  rcases List.mem_append.mp hx with hx | hx
  · exact h.lt x hx
  · rw [List.mem_singleton.mp hx]; exact d
structure ReadIs (base : Int) (pre : List Int) (number : Int) : Prop where
  eq : number = readI base worth pre
  n0 : 0 ≤ number
  lt : number < 2 ^ (6 * pre.length)
theorem rd_start (base : Int) : ReadIs base [] 0 := ⟨rfl, Int.le_refl 0, by decide⟩
theorem readI_snoc (base : Int) (g : Int → Int) (pre : List Int) (c : Int) : readI base g (pre ++ [c]) = readI base g pre * base + g c := by
  unfold readI
  rw [List.foldl_append]
  rfl
theorem rd_turn {base c number : Int} {pre : List Int} (h : ReadIs base pre number) (b0 : 2 ≤ base) (b1 : base ≤ 36) (d : worth c < base) : ReadIs base (pre ++ [c]) (number * base + worth c) := by
  have hw := worth_nn c
  have n0 := h.n0
  have hm0 : 0 ≤ number * base := Int.mul_nonneg n0 (by omega)
  refine ⟨?_, by omega, ?_⟩
  · rw [readI_snoc, ← h.eq]
  · have e : 6 * (pre ++ [c]).length = 6 * pre.length + 6 := by
      rw [List.length_append]
      show 6 * (pre.length + 1) = _
      omega
    rw [e, Int.pow_add]
    have e6 : (2 : Int) ^ 6 = 64 := by decide
    rw [e6]
    have lt := h.lt
    generalize (2 : Int) ^ (6 * pre.length) = p at *
    have h1 : number * base ≤ number * 36 := Int.mul_le_mul_of_nonneg_left b1 n0
    omega
theorem read_val {base most : Int} {t : List Int} (l1 : 1 ≤ t.length) (l2 : t.length ≤ 65536) (b1 : 2 ≤ base) (b2 : base ≤ 36) (m1 : 1 ≤ most) (m2 : most ≤ 65536) (h0 : ∀ c ∈ t, 0 ≤ c) (hA : AllDig base t) :
    PySv22.read base most t = if readI base worth t < 2 ^ (64 * most.toNat) then 0 :: rowI most.toNat (readI base worth t) else [-7] :=
  read_good2 l1 l2 b1 b2 m1 m2 h0 fun c hc => by
    rw [dig_is b2 (h0 c hc), if_pos (hA.lt c hc)]
theorem read_not {base most c : Int} {t : List Int} (l1 : 1 ≤ t.length) (l2 : t.length ≤ 65536) (b1 : 2 ≤ base) (b2 : base ≤ 36) (m1 : 1 ≤ most) (m2 : most ≤ 65536) (h0 : ∀ c ∈ t, 0 ≤ c) (hc : c ∈ t) (hd : ¬ worth c < base) :
    PySv22.read base most t = [-3] :=
  read_three l1 l2 b1 b2 m1 m2 hc (by rw [dig_is b2 (h0 c hc), if_neg hd])
end My
/-! The steps. -/
namespace My
open PySem PySem.W PySem.Calls PyProof.Rows PyProof.V PySem.Spec
structure NumIs (pre : List Int) (n : Int) : Prop where
  eq : n = numOf pre.reverse
  inw : InW pre
  short : pre.length ≤ 64
theorem num_start : NumIs [] 0 := ⟨rfl, (fun _ h => nomatch h), by decide⟩
theorem NumIs.inr {pre : List Int} {n : Int} (h : NumIs pre n) : InW pre.reverse := fun x hx => h.inw x (List.mem_reverse.mp hx)
theorem NumIs.nn {pre : List Int} {n : Int} (h : NumIs pre n) : 0 ≤ n := by rw [h.eq]; exact num_nonneg h.inr
theorem NumIs.abs {pre : List Int} {n : Int} (h : NumIs pre n) : n.natAbs < 2 ^ 4096 := by
  rw [h.eq]
  refine Nat.lt_of_lt_of_le (num_natAbs_lt h.inr) (Nat.pow_le_pow_right (by decide) ?_)
  have := h.short
  rw [List.length_reverse]
  omega
theorem NumIs.bits {pre : List Int} {n : Int} (h : NumIs pre n) : Builtin.Int.intBits n ≤ 4096 := intBits_le_iff.mpr h.abs
structure ShlOf (x z : Int) : Prop where
  eq : z = x * 18446744073709551616
structure OrOf (x y z : Int) : Prop where
  eq : z = x * 18446744073709551616 + y
structure AndOf (x z : Int) : Prop where
  eq : z = x % 18446744073709551616
structure ShrOf (x z : Int) : Prop where
  eq : z = x / 18446744073709551616
structure MulOf (x y z : Int) : Prop where
  eq : z = x * y
structure DivOf (x y z : Int) : Prop where
  eq : z = x / y
structure ModOf (x y z : Int) : Prop where
  eq : z = x % y
theorem num_turn {ns pre : List Int} {n v r : Int} (h : NumIs pre n) (ho : OrOf n v r) (hm : v ∈ ns) (hw : InW ns) (hl : pre.length < ns.length) (hs : ns.length ≤ 64) : NumIs (pre ++ [v]) r := by
  refine ⟨?_, ?_, ?_⟩
  · rw [List.reverse_append, ho.eq]
    show _ = numOf pre.reverse * 18446744073709551616 + v
    rw [← h.eq]
  · intro x hx
    rcases List.mem_append.mp hx with hx | hx
    · exact h.inw x hx
    · rw [List.mem_singleton.mp hx]; exact hw v hm
  · rw [List.length_append]
    show pre.length + 1 ≤ 64
    omega
theorem num_is {ns : List Int} {n : Int} (h : NumIs ns.reverse n) : n = numOf ns := by
  have := h.eq
  rw [List.reverse_reverse] at this
  exact this
theorem and_low (a d : Nat) (h : d < 2 ^ 64) : (2 ^ 64 * a) &&& d = 0 := by
  have e1 : d &&& (2 ^ 64 - 1) = d % 2 ^ 64 := Nat.and_two_pow_sub_one_eq_mod d 64
  have e2 : (2 ^ 64 * a) &&& (2 ^ 64 - 1) = (2 ^ 64 * a) % 2 ^ 64 := Nat.and_two_pow_sub_one_eq_mod (2 ^ 64 * a) 64
  have e3 : d % 2 ^ 64 = d := Nat.mod_eq_of_lt h
  have e4 : (2 ^ 64 * a) % 2 ^ 64 = 0 := Nat.mul_mod_right _ _
  have f1 : d &&& (2 ^ 64 - 1) = d := e1.trans e3
  have f2 : (2 ^ 64 * a) &&& (d &&& (2 ^ 64 - 1)) = ((2 ^ 64 * a) &&& (2 ^ 64 - 1)) &&& d := by rw [Nat.and_comm d, Nat.and_assoc]
  rw [f1, e2, e4, Nat.zero_and] at f2
  exact f2
theorem or_low {v d : Int} (h0 : 0 ≤ v) (d0 : 0 ≤ d) (d1 : d ≤ 18446744073709551615) : Builtin.bitOr (v * 18446744073709551616) d = v * 18446744073709551616 + d := by
  have e : (v * 18446744073709551616).toNat &&& d.toNat = 0 := by
    have q : (v * 18446744073709551616).toNat = 2 ^ 64 * v.toNat := by
      have : (2 : Nat) ^ 64 = 18446744073709551616 := by decide
      rw [this]; omega
    rw [q]
    refine and_low _ _ ?_
    have : (2 : Nat) ^ 64 = 18446744073709551616 := by decide
    omega
  rw [PyProof.Rows.bitOr_and, PyProof.Rows.bitAnd_pp (by omega) d0, e]
  exact Int.sub_zero _
theorem mask64 (x : Int) : Builtin.bitAnd x 18446744073709551615 = x % 18446744073709551616 := kbt_mask x 64
section
variable {prog : Program} {w : World} {A : Around} {E : Value → Shared → Prop} {s : Shared} {x y : Int} {t u : Tok} {Q : Value → Shared → Prop}
theorem step_shl {pre : List Int} (hx : NumIs pre x) (h : ∀ z, ShlOf x z → Q (.int z s.toks) { s with toks := s.toks + 1 }) : wpAny (model prog w) A (binaryOp .LShift (.int x t) (.int 64 u)) Q E s := by
  have e : (2 : Int) ^ (64 : Int).toNat = 18446744073709551616 := by first | decide | rfl
  refine PyProof.Rows.lshift_int (by decide) ?_ ?_
  · have := hx.bits
    have e2 : (2 : Int) ^ 27 = 134217728 := by decide
    rw [e2]
    omega
  · rw [e]
    exact h _ ⟨rfl⟩
theorem step_or {pre ns : List Int} {x' : Int} (hz : ShlOf x' x) (hx : NumIs pre x') (hm : y ∈ ns) (hw : InW ns) (h : ∀ z, OrOf x' y z → Q (.int z s.toks) { s with toks := s.toks + 1 }) :
    wpAny (model prog w) A (binaryOp .BitOr (.int x t) (.int y u)) Q E s := by
  refine PyProof.Rows.or_int ?_
  have := hw y hm
  rw [hz.eq, or_low hx.nn this.1 this.2]
  exact h _ ⟨rfl⟩
theorem step_and (h : ∀ z, AndOf x z → Q (.int z s.toks) { s with toks := s.toks + 1 }) : wpAny (model prog w) A (binaryOp .BitAnd (.int x t) (.int 18446744073709551615 u)) Q E s := by
  refine PyProof.Rows.and_int ?_
  rw [mask64]
  exact h _ ⟨rfl⟩
theorem step_shr (h : ∀ z, ShrOf x z → Q (.int z s.toks) { s with toks := s.toks + 1 }) : wpAny (model prog w) A (binaryOp .RShift (.int x t) (.int 64 u)) Q E s := by
  have e : (2 : Int) ^ (64 : Int).toNat = 18446744073709551616 := by first | decide | rfl
  refine PyProof.Rows.rshift_int (by decide) ?_
  rw [e, Int.fdiv_eq_ediv_of_nonneg x (by decide)]
  exact h _ ⟨rfl⟩
theorem step_mul {p q : List Int} (hx : NumIs p x) (hy : NumIs q y) (h : ∀ z, MulOf x y z → Q (.int z s.toks) { s with toks := s.toks + 1 }) : wpAny (model prog w) A (binaryOp .Mult (.int x t) (.int y u)) Q E s :=
  PyProof.Rows.mul_int (h _ ⟨rfl⟩) (PySem.IntMulOk.of_le hx.bits hy.bits (by decide))
theorem log2_lt {z : Int} (h : z.natAbs < 2 ^ 4096) : z.natAbs.log2 < 9000 := by
  by_cases h0 : z.natAbs = 0
  · rw [h0]; decide +kernel
  · have : z.natAbs.log2 < 4096 := (Nat.log2_lt h0).mpr h
    omega
theorem step_fdiv {p q : List Int} (_hx : NumIs p x) (hy : NumIs q y) (hz : ¬ y = 0) (h : ∀ z, DivOf x y z → Q (.int z s.toks) { s with toks := s.toks + 1 }) : wpAny (model prog w) A (binaryOp .FloorDiv (.int x t) (.int y u)) Q E s := by
  refine PyProof.Rows.floordiv_int hz ?_ (Or.inl (PyProof.noPylong_of_log2 (log2_lt hy.abs)))
  rw [Int.fdiv_eq_ediv_of_nonneg x hy.nn]
  exact h _ ⟨rfl⟩
theorem step_fmod {p q : List Int} (_hx : NumIs p x) (hy : NumIs q y) (hz : ¬ y = 0) (h : ∀ z, ModOf x y z → Q (.int z s.toks) { s with toks := s.toks + 1 }) : wpAny (model prog w) A (binaryOp .Mod (.int x t) (.int y u)) Q E s := by
  refine PyProof.Rows.mod_int hz ?_
  rw [Int.fmod_eq_emod_of_nonneg x hy.nn]
  exact h _ ⟨rfl⟩
end
section
variable {prog : Program} {w : World} {A : Around} {E : Value → Shared → Prop} {s : Shared} {env : Env} {h₀ : Heap} {x : Str} {body : List Stmt} {Q : Flow → Shared → Prop}
theorem rev_state {I l : Addr} {vs : List Value} {ns : List Int} {m₀ : Str → Option Value} {news : List (Addr × Obj)} {y : Str} {a₀ : Int} {t₀ : Nat} (P : List Int → Int → Prop)
    (hh : A.handled = none) (hl : h₀.IsList l vs.toArray) (hi : IntsAre vs ns) (F : Fr h₀ env.locals s.heap m₀) (N : News h₀ env.locals s.heap ((I, revObj l ((vs.length : Int) - 1)) :: news)) (hoff : ∀ p ∈ news, p.1 ≠ I)
    (hk : m₀ y = some (.int a₀ t₀)) (hp : P [] a₀)
    (turn : ∀ (c : Int × Nat) pre post n t (u : Str → Option Value) h tk own, ns.reverse = pre ++ n :: post → n ∈ ns → pre.length < ns.length → OwnOff own (news.map (·.1)) → P pre c.1 →
      Fr h₀ env.locals h (fun z => if z = x then some (.int n t) else kstB (fun z => if ([] : List Str).contains z then u z else m₀ z) [(y, .int c.1 c.2)] z) → News h₀ env.locals h (news ++ own) →
      wpAny (model prog w) A (execs body env) (InvPostN h₀ env.locals (KstS (fun _ : Int × Nat => news) (fun c => [(y, .int c.1 c.2)]) (fun _ => True) x [] m₀ (fun pre c => P pre c.1) (pre ++ [n])) own (news.map (·.1)) { s with heap := h, toks := tk } Q) E { s with heap := h, toks := tk })
    (done : ∀ (c : Int × Nat) (u : Str → Option Value) h tk, P ns.reverse c.1 → Fr h₀ env.locals h (fun z => if z = x then u z else kstB (fun z => if ([] : List Str).contains z then u z else m₀ z) [(y, .int c.1 c.2)] z) → News h₀ env.locals h news → Q .next { s with heap := h, toks := tk }) :
    wpAny (model prog w) A (pyIter (.ref I)) (fun it s₂ => LoopAtV prog w A h₀ env x body Q E it s₂) E s := by
  have hls : s.heap.IsList l vs.toArray := hl.at fun o e => F.keep l o e
  obtain ⟨ol, hol, _⟩ := id hl
  have hlt : l < h₀.objs.size := Heap.lt_size hol
  have hI := N _ (List.mem_cons_self ..)
  have hne : l ≠ I := by
    intro e
    have h1 := hI.2.2
    rw [← e, hol] at h1
    cases h1
  have hit : s.heap.IsRevIter I l ((vs.length : Int) - 1) := ⟨_, hI.1, rfl, rfl⟩
  refine wpAny_pyIter_revIter hit ?_
  have W := Walks.listRev (prog := prog) (w := w) hh I l hne vs.toArray
  have hlen : vs.toArray.size = ns.length := by simp [hi.length]
  have hlen2 : vs.length = ns.length := hi.length
  rw [hlen] at W
  refine loop_invN (fun i m nx => KstS (fun _ : Int × Nat => news) (fun c => [(y, .int c.1 c.2)]) (fun _ => True) x [] m₀ (fun pre c => P pre c.1) (ns.reverse.take i) m nx) W ?_ ?_ ?_ ?_ ?_ F (fun p hp => N p (List.mem_cons_of_mem _ hp)) ⟨(a₀, t₀), rfl, trivial, ?_, fun _ _ _ _ => rfl, by simpa using hp⟩ ?_ ?_
  · intro hm
    rcases List.mem_cons.mp hm with e | hm
    · exact hI.2.1 e.symm
    · exact absurd (Nat.lt_of_lt_of_le hlt F.above) ((List.mem_singleton.mp hm) ▸ Nat.lt_irrefl _)
  · intro b hb
    rw [List.mem_singleton.mp hb]
    exact hI.2.2
  · intro p hp hm
    exact hoff p hp (List.mem_singleton.mp hm)
  · intro p hp hm
    rcases List.mem_cons.mp hm with e | hm
    · exact hoff p hp e
    · have h1 := (N p (List.mem_cons_of_mem _ hp)).2.2
      rw [List.mem_singleton.mp hm, hol] at h1
      cases h1
  · refine ⟨Nat.zero_le _, ?_, hls⟩
    have e : (ns.length : Int) - 1 - ((0 : Nat) : Int) = (vs.length : Int) - 1 := by omega
    rw [e]
    exact hit
  · intro p hp
    rw [List.mem_singleton.mp hp]
    exact hk
  · rintro i v m₁ nx h tk own hi' hP _ hoff' ⟨c, rfl, _, h1, h2, hp'⟩ F₁ N₁
    have hj : ns.length - 1 - i < ns.length := by omega
    obtain ⟨t, hx⟩ := hi.get (ns.length - 1 - i) (ns[ns.length - 1 - i]) (by simp [hj])
    have hv : v = .int (ns[ns.length - 1 - i]) t := by
      have hP' : vs[ns.length - 1 - i]? = some v := by simpa using hP
      rw [hx] at hP'
      exact (Option.some.inj hP').symm
    subst hv
    have hn : ns.reverse[i]? = some (ns[ns.length - 1 - i]) := by
      rw [List.getElem?_reverse hi']
      simp [hj]
    have hs : ns.reverse.take (i + 1) = ns.reverse.take i ++ [ns[ns.length - 1 - i]] := by simp [List.take_add_one, hn]
    have e : ns.reverse = ns.reverse.take i ++ ns[ns.length - 1 - i] :: ns.reverse.drop (i + 1) := by
      have ht := List.take_append_drop (i + 1) ns.reverse
      rw [hs, List.append_assoc] at ht
      exact ht.symm
    have hl2 : (ns.reverse.take i).length < ns.length := by
      rw [List.length_take, List.length_reverse]
      omega
    rw [hs]
    exact turn c _ _ _ t m₁ h tk own e (List.getElem_mem hj) hl2 hoff' hp' (kst_fr h1 h2 F₁) N₁
  · rintro m₁ nx h tk ⟨c, rfl, _, h1, h2, hp'⟩ F₁ N₁
    have z : ns.reverse.take ns.length = ns.reverse := List.take_of_length_le (by rw [List.length_reverse]; exact Nat.le_refl _)
    rw [z] at hp'
    exact done c m₁ h tk hp' (kst_frOut h1 h2 F₁) N₁
end
end My
/-! The request, one argument at a time. -/
namespace My
open PySem PySem.W
theorem dec_cons {c : Codec} {cs : List Codec} {d : WData} {ds : List WData} (h : (Codec.decAll (c :: cs) (d :: ds)).isSome = true) :
    (Codec.decAll [c] [d]).isSome = true ∧ (Codec.decAll cs ds).isSome = true := by
  have e : Codec.decAll (c :: cs) (d :: ds) = Codec.both Prod.mk (c.dec d) (Codec.decAll cs ds) := rfl
  have e1 : Codec.decAll [c] [d] = Codec.both Prod.mk (c.dec d) (some ()) := rfl
  rw [e] at h
  rw [e1]
  cases h1 : c.dec d with
  | none =>
    rw [h1] at h
    cases h
  | some a =>
    cases h2 : Codec.decAll cs ds with
    | none =>
      rw [h1, h2] at h
      cases h
    | some r => exact ⟨rfl, rfl⟩
theorem dec_join {c : Codec} {cs : List Codec} {d : WData} {ds : List WData} {a : c.denote} {r : Codec.denoteAll cs} (h1 : Codec.decAll [c] [d] = some (a, ())) (h2 : Codec.decAll cs ds = some r) :
    Codec.decAll (c :: cs) (d :: ds) = some (a, r) := by
  have e : Codec.decAll (c :: cs) (d :: ds) = Codec.both Prod.mk (c.dec d) (Codec.decAll cs ds) := rfl
  have e1 : Codec.decAll [c] [d] = Codec.both Prod.mk (c.dec d) (some ()) := rfl
  rw [e1] at h1
  rw [e, h2]
  cases h3 : c.dec d with
  | none =>
    rw [h3] at h1
    cases h1
  | some b =>
    rw [h3] at h1
    cases h1
    rfl
theorem same_list {l k : List Int} (h : l = k) : same (WData.list (ofPys (l.map PyData.int))) (WData.list (k.map WData.int)) = true := by
  subst h
  rw [ofPys_ints]
  exact same_self _
theorem two_lists_of {least most : Nat} {a b : List Int} (h : (Codec.decAll [.list least most (.int 0 18446744073709551615), .list least most (.int 0 18446744073709551615)] [ofPy (PyData.list (a.map PyData.int)), ofPy (PyData.list (b.map PyData.int))]).isSome = true) :
    (Codec.decAll [.list least most (.int 0 18446744073709551615), .list least most (.int 0 18446744073709551615)] [ofPy (PyData.list (a.map PyData.int)), ofPy (PyData.list (b.map PyData.int))] = some (a, b, ())) ∧ a.length ≤ most ∧ InW a ∧ b.length ≤ most ∧ InW b := by
  obtain ⟨h1, h2⟩ := dec_cons h
  obtain ⟨e1, _, most1, items1⟩ := os_dec_ints h1
  obtain ⟨e2, _, most2, items2⟩ := os_dec_ints h2
  exact ⟨dec_join e1 e2, most1, items1, most2, items2⟩
end My
/-! The requests of power, text and read. -/
namespace My
open PySem PySem.W
theorem dec_int {lo hi i : Int} (h : (Codec.decAll [.int lo hi] [ofPy (PyData.int i)]).isSome = true) : Codec.decAll [.int lo hi] [ofPy (PyData.int i)] = some (i, ()) ∧ lo ≤ i ∧ i ≤ hi := by
  have e : Codec.decAll [.int lo hi] [ofPy (PyData.int i)] = Codec.both Prod.mk (if Codec.inInt lo hi i = true then some i else none) (some ()) := rfl
  rw [e] at h ⊢
  cases h1 : Codec.inInt lo hi i with
  | false => rw [h1] at h; cases h
  | true =>
    unfold Codec.inInt at h1
    simp only [Bool.and_eq_true, decide_eq_true_eq] at h1
    exact ⟨rfl, h1.1, h1.2⟩
theorem three_lists_of {least most : Nat} {a b c : List Int} (h : (Codec.decAll [.list least most (.int 0 18446744073709551615), .list least most (.int 0 18446744073709551615), .list least most (.int 0 18446744073709551615)] [ofPy (PyData.list (a.map PyData.int)), ofPy (PyData.list (b.map PyData.int)), ofPy (PyData.list (c.map PyData.int))]).isSome = true) :
    (Codec.decAll [.list least most (.int 0 18446744073709551615), .list least most (.int 0 18446744073709551615), .list least most (.int 0 18446744073709551615)] [ofPy (PyData.list (a.map PyData.int)), ofPy (PyData.list (b.map PyData.int)), ofPy (PyData.list (c.map PyData.int))] = some (a, b, c, ())) ∧ a.length ≤ most ∧ InW a ∧ b.length ≤ most ∧ InW b ∧ c.length ≤ most ∧ InW c := by
  obtain ⟨h1, h2⟩ := dec_cons h
  obtain ⟨e1, _, most1, items1⟩ := os_dec_ints h1
  obtain ⟨e2, most2, items2, most3, items3⟩ := two_lists_of h2
  exact ⟨dec_join e1 e2, most1, items1, most2, items2, most3, items3⟩
theorem ints_list_of {top most : Nat} {hi : Int} {i j : Int} {l : List Int} (h : (Codec.decAll [.int 0 hi, .int 0 hi, .list 0 most (.int 0 top)] [ofPy (PyData.int i), ofPy (PyData.int j), ofPy (PyData.list (l.map PyData.int))]).isSome = true) :
    (Codec.decAll [.int 0 hi, .int 0 hi, .list 0 most (.int 0 top)] [ofPy (PyData.int i), ofPy (PyData.int j), ofPy (PyData.list (l.map PyData.int))] = some (i, j, l, ())) ∧ (0 ≤ i ∧ i ≤ hi) ∧ (0 ≤ j ∧ j ≤ hi) ∧ l.length ≤ most ∧ ∀ x ∈ l, 0 ≤ x ∧ x ≤ (top : Int) := by
  obtain ⟨h1, h2⟩ := dec_cons h
  obtain ⟨h3, h4⟩ := dec_cons h2
  obtain ⟨e1, i0, i1⟩ := dec_int h1
  obtain ⟨e2, j0, j1⟩ := dec_int h3
  obtain ⟨e3, _, most3, items3⟩ := os_dec_ints h4
  exact ⟨dec_join e1 (dec_join e2 e3), ⟨i0, i1⟩, ⟨j0, j1⟩, most3, items3⟩
end My
namespace My
theorem w_start {number length : Int} (h0 : 0 ≤ length) (h1 : length ≤ 128) : (([] : List Int).length : Int) ≤ length ∧ length ≤ 128 ∧ RowIs number [] number := ⟨h0, h1, row_start number⟩
theorem w_turn {number length rest r q : Int} {row : List Int} (hr : AndOf rest r) (hq : ShrOf rest q) (h : RowIs number row rest) (h0 : (row.length : Int) < length) (h1 : length ≤ 128) :
    ((row ++ [r]).length : Int) ≤ length ∧ length ≤ 128 ∧ RowIs number (row ++ [r]) q := by
  rw [hr.eq, hq.eq]
  refine ⟨?_, h1, row_turn h⟩
  rw [List.length_append]
  show ((row.length + 1 : Nat) : Int) ≤ length
  omega
theorem w_less {row : List Int} {length v : Int} (h0 : (row.length : Int) < length) : (length - ((row ++ [v]).length : Int)).toNat < (length - (row.length : Int)).toNat := by
  rw [List.length_append]
  show (length - ((row.length + 1 : Nat) : Int)).toNat < _
  omega
end My
example : Int → Int → List Int → List Int → Int → Prop := fun number length _ row rest => (row.length : Int) ≤ length ∧ length ≤ 128 ∧ My.RowIs number row rest
example : Int → Int → List Int → List Int → Int → Nat := fun _ length _ row _ => (length - (row.length : Int)).toNat
namespace My
open PySem PySem.W PySem.Calls PyProof.Rows PyProof.V PySem.Spec
theorem wr_start {number length : Int} (h0 : 0 ≤ length) (h1 : length ≤ 65536) : (([] : List Int).length : Int) ≤ length ∧ length ≤ 65536 ∧ RowIs number [] number := ⟨h0, h1, row_start number⟩
theorem wr_turn {number length rest r q : Int} {row : List Int} (hr : AndOf rest r) (hq : ShrOf rest q) (h : RowIs number row rest) (h0 : (row.length : Int) < length) (h1 : length ≤ 65536) :
    ((row ++ [r]).length : Int) ≤ length ∧ length ≤ 65536 ∧ RowIs number (row ++ [r]) q := by
  rw [hr.eq, hq.eq]
  refine ⟨?_, h1, row_turn h⟩
  rw [List.length_append]
  show ((row.length + 1 : Nat) : Int) ≤ length
  omega
theorem lt_num {c base : Int} (h1 : 48 ≤ c) (h2 : c ≤ 57) (h : c - 48 < base) : worth c < base := by rw [worth_num h1 h2]; exact h
theorem lt_low {c base : Int} (h1 : 97 ≤ c) (h2 : c ≤ 122) (h : c - 97 + 10 < base) : worth c < base := by rw [worth_low h1 h2]; exact h
theorem lt_cap {c base : Int} (h1 : 65 ≤ c) (h2 : c ≤ 90) (h : c - 65 + 10 < base) : worth c < base := by rw [worth_cap h1 h2]; exact h
theorem ge_num {c base : Int} (h1 : 48 ≤ c) (h2 : c ≤ 57) (h : ¬ c - 48 < base) : ¬ worth c < base := by rw [worth_num h1 h2]; exact h
theorem ge_low {c base : Int} (h1 : 97 ≤ c) (h2 : c ≤ 122) (h : ¬ c - 97 + 10 < base) : ¬ worth c < base := by rw [worth_low h1 h2]; exact h
theorem ge_cap {c base : Int} (h1 : 65 ≤ c) (h2 : c ≤ 90) (h : ¬ c - 65 + 10 < base) : ¬ worth c < base := by rw [worth_cap h1 h2]; exact h
theorem ge_not {c base : Int} (h1 : ¬ (48 ≤ c ∧ c ≤ 57)) (h2 : ¬ (97 ≤ c ∧ c ≤ 122)) (h3 : ¬ (65 ≤ c ∧ c ≤ 90)) (b : base ≤ 36) : ¬ worth c < base := by rw [worth_not h1 h2 h3]; omega
theorem no_none {c base : Int} {t : List Int} (hA : AllDig base t) (hc : c ∈ t) (h1 : ¬ (48 ≤ c ∧ c ≤ 57)) (h2 : ¬ (97 ≤ c ∧ c ≤ 122)) (h3 : ¬ (65 ≤ c ∧ c ≤ 90)) (b : base ≤ 36) : False := ge_not h1 h2 h3 b (hA.lt c hc)
structure NumRead (base : Int) (pre : List Int) (number : Int) : Prop where
  is : ReadIs base pre number
  short : pre.length ≤ 1000
theorem nr_start (base : Int) : NumRead base [] 0 := ⟨rd_start base, by decide⟩
theorem nr_turn {base c number z d : Int} {t pre post : List Int} (hR : NumRead base pre number) (hM : MulOf number base z) (hA : AllDig base t) (he : t = pre ++ c :: post) (hl : t.length ≤ 1000) (hd : worth c = d) (b0 : 2 ≤ base) (b1 : base ≤ 36) : NumRead base (pre ++ [c]) (z + d) := by
  have hc : c ∈ t := by
    rw [he]
    exact List.mem_append_right _ (List.mem_cons_self ..)
  refine ⟨?_, ?_⟩
  · rw [hM.eq, ← hd]
    exact rd_turn hR.is b0 b1 (hA.lt c hc)
  · rw [he, List.length_append, List.length_cons] at hl
    rw [List.length_append]
    show pre.length + 1 ≤ 1000
    omega
theorem NumRead.abs {base number : Int} {pre : List Int} (h : NumRead base pre number) : number.natAbs < 2 ^ 6000 := by
  have n0 := h.is.n0
  have lt := h.is.lt
  have e : (number.natAbs : Int) = number := by omega
  have h2 : ((number.natAbs : Nat) : Int) < ((2 ^ (6 * pre.length) : Nat) : Int) := by
    rw [e, Int.natCast_pow]; exact lt
  have := h.short
  exact Nat.lt_of_lt_of_le (Int.ofNat_lt.mp h2) (Nat.pow_le_pow_right (by decide) (by omega))
structure BitsIs (n z : Int) : Prop where
  lt : n < 2 ^ z.toNat
  least : ∀ k : Nat, n < 2 ^ k → z ≤ k
theorem bits_is {n : Int} (nn : 0 ≤ n) : BitsIs n ((Builtin.Int.intBits n : Nat) : Int) := by
  have key : ∀ m : Nat, n.natAbs < 2 ^ m ↔ n < 2 ^ m := by
    intro m
    have e : (n.natAbs : Int) = n := by omega
    have e2 : ((2 ^ m : Nat) : Int) = 2 ^ m := by rw [Int.natCast_pow]; rfl
    rw [← Int.ofNat_lt, e2, e]
  refine ⟨?_, fun k hk => ?_⟩
  · rw [Int.toNat_natCast]
    exact (key _).mp ((intBits_le_iff (m := Builtin.Int.intBits n) (x := n)).mp (Nat.le_refl _))
  · have := (intBits_le_iff (m := k) (x := n)).mpr ((key k).mpr hk)
    omega
section
variable {prog : Program} {w : World} {A : Around} {E : Value → Shared → Prop} {s : Shared} {x y : Int} {t u : Tok} {Q : Value → Shared → Prop}
theorem step_rmul {p : List Int} (hx : NumRead y p x) (b0 : 2 ≤ y) (b1 : y ≤ 36) (h : ∀ z, MulOf x y z → Q (.int z s.toks) { s with toks := s.toks + 1 }) : wpAny (model prog w) A (binaryOp .Mult (.int x t) (.int y u)) Q E s := by
  have h6 : (2 : Nat) ^ 6 = 64 := by decide
  have k1 : Builtin.Int.intBits x ≤ 6000 := intBits_le_iff.mpr hx.abs
  have k2 : Builtin.Int.intBits y ≤ 6 := intBits_le_iff.mpr (by omega)
  exact PyProof.Rows.mul_int (h _ ⟨rfl⟩) (PySem.IntMulOk.of_le k1 k2 (by decide))
theorem step_ord {X : Str} {n : Int} (h1 : X.length = 1) (e : ((X.cps.getD 0 0 : Nat) : Int) = n) (h : Q (.int n s.toks) { s with toks := s.toks + 1 }) : wpAny (model prog w) A (call (.builtin "ord") [.str X t]) Q E s :=
  ord_of_one h1 (by rw [e]; exact h)
theorem step_rbits {b : Int} {p : List Int} (hx : NumRead b p x) (h : ∀ z, BitsIs x z → 0 ≤ z → z ≤ 6000 → Q (.int z s.toks) { s with toks := s.toks + 1 }) : wpAny (model prog w) A (call (.builtin "int.bit_length") [.int x t]) Q E s := by
  have k1 : Builtin.Int.intBits x ≤ 6000 := intBits_le_iff.mpr hx.abs
  exact PyProof.Rows.call_int_bit_length (h _ (bits_is hx.is.n0) (Int.natCast_nonneg _) (by omega))
end
end My
namespace My
open PySem PySem.W
theorem read_lists {base most : Int} {t : List Int} (h : PySem.Challenge.rw_longreckon_s08_read.pre [WData.int base, WData.int most, ofPy (PyData.list (t.map PyData.int))] = true) : (0 ≤ base ∧ base ≤ 4294967295) ∧ (0 ≤ most ∧ most ≤ 4294967295) ∧ t.length ≤ 1000 ∧ ∀ x ∈ t, 0 ≤ x ∧ x ≤ ((255 : Nat) : Int) := (ints_list_of (top := 255) (os_pre_isSome h)).2
theorem read_fin {base most : Int} {t : List Int} {d : WData} (h : PySem.Challenge.rw_longreckon_s08_read.pre [WData.int base, WData.int most, ofPy (PyData.list (t.map PyData.int))] = true) (e : same d (.list ((PySv22.read base most t).map WData.int)) = true) :
    PySem.Challenge.rw_longreckon_s08_read.post [WData.int base, WData.int most, ofPy (PyData.list (t.map PyData.int))] d = true := os_post (ints_list_of (top := 255) (os_pre_isSome h)).1 e
theorem read_no {base most : Int} {t : List Int} (h : PySem.Challenge.rw_longreckon_s08_read.pre [WData.int base, WData.int most, ofPy (PyData.list (t.map PyData.int))] = true) (hl : ¬ (1 ≤ (t.length : Int) ∧ 2 ≤ base ∧ base ≤ 36 ∧ 1 ≤ most ∧ most ≤ 65536)) :
    PySem.Challenge.rw_longreckon_s08_read.post [WData.int base, WData.int most, ofPy (PyData.list (t.map PyData.int))] (ofPy (PyData.list [PyData.int (-2)])) = true := by
  refine read_fin h ?_
  rw [read_bad2 (by omega)]
  exact os_same_list rfl
theorem read_o {base most c : Int} {t : List Int} (h : PySem.Challenge.rw_longreckon_s08_read.pre [WData.int base, WData.int most, ofPy (PyData.list (t.map PyData.int))] = true)
    (hc : c ∈ t) (hd : ¬ worth c < base) (t1 : 1 ≤ (t.length : Int)) (b1 : 2 ≤ base) (b2 : base ≤ 36) (m1 : 1 ≤ most) (m2 : most ≤ 65536) :
    PySem.Challenge.rw_longreckon_s08_read.post [WData.int base, WData.int most, ofPy (PyData.list (t.map PyData.int))] (ofPy (PyData.list [PyData.int (-3)])) = true := by
  obtain ⟨_, _, l1, i1⟩ := read_lists h
  refine read_fin h ?_
  rw [read_not (by omega) (by omega) b1 b2 m1 m2 (fun x hx => (i1 x hx).1) hc hd]
  exact os_same_list rfl
theorem read_seven {base most x z : Int} {t : List Int} (h : PySem.Challenge.rw_longreckon_s08_read.pre [WData.int base, WData.int most, ofPy (PyData.list (t.map PyData.int))] = true)
    (hA : AllDig base t) (hN : NumRead base t x) (hB : BitsIs x z) (hm : 64 * most < z) (t1 : 1 ≤ (t.length : Int)) (b1 : 2 ≤ base) (b2 : base ≤ 36) (m1 : 1 ≤ most) (m2 : most ≤ 65536) :
    PySem.Challenge.rw_longreckon_s08_read.post [WData.int base, WData.int most, ofPy (PyData.list (t.map PyData.int))] (ofPy (PyData.list [PyData.int (-7)])) = true := by
  obtain ⟨_, _, l1, i1⟩ := read_lists h
  refine read_fin h ?_
  rw [read_val (by omega) (by omega) b1 b2 m1 m2 (fun x hx => (i1 x hx).1) hA, if_neg]
  · exact os_same_list rfl
  · rw [← hN.is.eq]
    intro hlt
    have := hB.least _ hlt
    omega
theorem read_end {base most x z rest : Int} {t row : List Int} (h : PySem.Challenge.rw_longreckon_s08_read.pre [WData.int base, WData.int most, ofPy (PyData.list (t.map PyData.int))] = true)
    (hA : AllDig base t) (hN : NumRead base t x) (hB : BitsIs x z) (hr : RowIs x row rest) (hm : ¬ 64 * most < z) (t1 : 1 ≤ (t.length : Int)) (b1 : 2 ≤ base) (b2 : base ≤ 36) (m1 : 1 ≤ most) (m2 : most ≤ 65536) (l2 : (row.length : Int) = most) :
    PySem.Challenge.rw_longreckon_s08_read.post [WData.int base, WData.int most, ofPy (PyData.list (t.map PyData.int))] (WData.list (ofPys (([0] ++ row).map PyData.int))) = true := by
  obtain ⟨_, _, l1, i1⟩ := read_lists h
  refine read_fin h (same_list ?_)
  have e := row_end hr (k := most.toNat) (by omega)
  have hlt : x < 2 ^ (64 * most.toNat) := Int.lt_of_lt_of_le hB.lt (by
    have h2 : (2 : Nat) ^ z.toNat ≤ 2 ^ (64 * most.toNat) := Nat.pow_le_pow_right (by decide) (by omega)
    have h3 : ((2 ^ z.toNat : Nat) : Int) ≤ ((2 ^ (64 * most.toNat) : Nat) : Int) := Int.ofNat_le.mpr h2
    rw [Int.natCast_pow, Int.natCast_pow] at h3
    exact h3)
  rw [read_val (by omega) (by omega) b1 b2 m1 m2 (fun x hx => (i1 x hx).1) hA, ← hN.is.eq, if_pos hlt, e]
  rfl
end My
open PySem PySem.W PyProof.Rows
local macro_rules | `(tactic| walk_at "binaryOp LShift int int") => `(tactic| (k_here; (with_reducible show wpAny _ _ (binaryOp Operator.LShift (Value.int _ _) (Value.int 64 _)) _ _ _); k_dflt (refine' My.step_shl ?k1 ?_; (case k1 => assumption)); intro z' hz'))
local macro_rules | `(tactic| walk_at "binaryOp BitOr int int") => `(tactic| (k_here; (with_reducible show wpAny _ _ (binaryOp Operator.BitOr (Value.int _ _) (Value.int _ _)) _ _ _); k_dflt (refine' My.step_or ?k0 ?k1 ?k2 ?k3 ?_; (case k0 => assumption); (case k1 => assumption); (case k2 => assumption); (case k3 => assumption)); intro z' hz'))
local macro_rules | `(tactic| walk_at "binaryOp BitAnd int int") => `(tactic| (k_here; (with_reducible show wpAny _ _ (binaryOp Operator.BitAnd (Value.int _ _) (Value.int 18446744073709551615 _)) _ _ _); k_dflt (refine My.step_and ?_); intro z' hz'))
local macro_rules | `(tactic| walk_at "binaryOp RShift int int") => `(tactic| (k_here; (with_reducible show wpAny _ _ (binaryOp Operator.RShift (Value.int _ _) (Value.int 64 _)) _ _ _); k_dflt (refine My.step_shr ?_); intro z' hz'))
local macro_rules | `(tactic| walk_at "binaryOp Mult int int") => `(tactic| (k_here; (with_reducible show wpAny _ _ (binaryOp Operator.Mult (Value.int _ _) (Value.int _ _)) _ _ _); k_dflt (refine' My.step_mul ?k1 ?k2 ?_; (case k1 => assumption); (case k2 => assumption)); intro z' hz'))
local macro_rules | `(tactic| walk_at "binaryOp FloorDiv int int") => `(tactic| (k_here; (with_reducible show wpAny _ _ (binaryOp Operator.FloorDiv (Value.int _ _) (Value.int _ _)) _ _ _); k_dflt (refine' My.step_fdiv ?k1 ?k2 ?k3 ?_; (case k1 => assumption); (case k2 => assumption); (case k3 => first | assumption | omega)); intro z' hz'))
local macro_rules | `(tactic| walk_at "binaryOp Mod int int") => `(tactic| (k_here; (with_reducible show wpAny _ _ (binaryOp Operator.Mod (Value.int _ _) (Value.int _ _)) _ _ _); k_dflt (refine' My.step_fmod ?k1 ?k2 ?k3 ?_; (case k1 => assumption); (case k2 => assumption); (case k3 => first | assumption | omega)); intro z' hz'))
local macro_rules | `(tactic| walk_at "pyIter ref") => `(tactic| (k_here; (with_reducible show wpAny _ _ (pyIter (Value.ref _)) (fun it s₂ => LoopAtV _ _ _ _ _ _ _ _ _ it s₂) _ _); (rename Fr _ _ _ _ => lF'); (rename News _ _ _ _ => lN'); k_dflt (refine' My.rev_state (y := Str.ofString "number") My.NumIs ?k0 ?k1 ?k2 lF' lN' ?k3 ?k4 My.num_start ?_ ?_; (case k0 => rfl); (case k1 => assumption); (case k2 => assumption); (case k3 => k_all); (case k4 => rfl)); (all_goals (try clear lF' lN')); rotate_left 1; (rintro ⟨kC1, kC2⟩ kU kH kTk kInv kFr kNews; (try dsimp only [kstB] at kFr); (try dsimp only at kInv); (have kMark := kstMark)); rotate_left 1; (rintro ⟨kC1, kC2⟩ kPre kPost kN kT kU kH kTk kOwn kEq kMem kLt kOff kInv kFr kNews; (try dsimp only [kstB] at kFr); (try dsimp only at kInv); (try simp only [List.nil_append, List.cons_append, List.append_nil] at kNews); (try dsimp only at kOff); (try simp only [List.map_cons, List.map_nil] at kOff); (have kMark := kstMark)); (all_goals (try k_fold))))
local macro_rules | `(tactic| walk_at "call builtin:list.append") => `(tactic| (k_here; (with_reducible show wpAny _ _ (call (Value.builtin _) [Value.ref _, _]) _ _ _); (rename KstMark => myMk); k_dflt (refine' append_K ?k1 ?k2 ?k3 ?_ ?z; (case k1 => k_asm); (case k2 => k_asm); (case k3 => k_upd); (case z => ((try simp only [List.size_toArray, Array.size_append, List.length_append, List.length_cons, List.length_nil, PySem.sizeLine_eq]); omega)); k_whole); intro myh myF myN; (try k_sweep)))
local macro_rules | `(tactic| walk_at "binaryOp Mult int int") => `(tactic| (k_here; (with_reducible show wpAny _ _ (binaryOp Operator.Mult (Value.int _ _) (Value.int _ _)) _ _ _); k_dflt (refine' My.step_rmul ?k1 ?k2 ?k3 ?_; (case k1 => assumption); (case k2 => omega); (case k3 => omega)); intro z' hz'))
local macro_rules | `(tactic| walk_at "call builtin:int.bit_length") => `(tactic| (k_here; (with_reducible show wpAny _ _ (call (Value.builtin _) [Value.int _ _]) _ _ _); k_dflt (refine' My.step_rbits ?k1 ?_; (case k1 => assumption)); intro z' hz' hl' hu'))
local macro_rules | `(tactic| walk_at "binaryOp Add int none") => `(tactic| (k_here; k_dflt (exfalso; exact My.no_none (by assumption) (by assumption) (by omega) (by omega) (by omega) (by omega))))
local macro_rules | `(tactic| walk_at "call builtin:ord") => `(tactic| (k_here; (with_reducible show wpAny _ _ (call (Value.builtin "ord") [Value.str _ _]) _ _ _); k_dflt (first | (refine' My.step_ord (n := 48) ?k1 ?k2 ?_; (case k1 => decide +kernel); (case k2 => decide +kernel)) | (refine' My.step_ord (n := 57) ?k1 ?k2 ?_; (case k1 => decide +kernel); (case k2 => decide +kernel)) | (refine' My.step_ord (n := 97) ?k1 ?k2 ?_; (case k1 => decide +kernel); (case k2 => decide +kernel)) | (refine' My.step_ord (n := 122) ?k1 ?k2 ?_; (case k1 => decide +kernel); (case k2 => decide +kernel)) | (refine' My.step_ord (n := 65) ?k1 ?k2 ?_; (case k1 => decide +kernel); (case k2 => decide +kernel)) | (refine' My.step_ord (n := 90) ?k1 ?k2 ?_; (case k1 => decide +kernel); (case k2 => decide +kernel)))))
set_option maxRecDepth 100000 in
set_option maxHeartbeats 8000000 in
theorem PySem.Challenge.cw_longreckon_s08_read_holds : PySem.Challenge.rw_longreckon_s08_read.Holds := by
  k_with "state" => first
    | exact My.ad_start _
    | exact My.ad_turn (by assumption) (My.lt_num (by omega) (by omega) (by omega))
    | exact My.ad_turn (by assumption) (My.lt_low (by omega) (by omega) (by omega))
    | exact My.ad_turn (by assumption) (My.lt_cap (by omega) (by omega) (by omega))
    | exact My.nr_start _
    | exact My.nr_turn (by assumption) (by assumption) (by assumption) (by assumption) (by assumption) (My.worth_num (by omega) (by omega)) (by omega) (by omega)
    | exact My.nr_turn (by assumption) (by assumption) (by assumption) (by assumption) (by assumption) (My.worth_low (by omega) (by omega)) (by omega) (by omega)
    | exact My.nr_turn (by assumption) (by assumption) (by assumption) (by assumption) (by assumption) (My.worth_cap (by omega) (by omega)) (by omega) (by omega)
    | exact My.wr_start (by omega) (by omega)
    | exact My.wr_turn (by assumption) (by assumption) (by assumption) (by omega) (by omega)
  k_with "measure" => exact My.w_less (by omega)
  k_with "exec While Compare cons nil" => k_while_given ["number", "length"] (fun number length _ row rest => (row.length : Int) ≤ length ∧ length ≤ 65536 ∧ My.RowIs number row rest) (fun _ length _ row _ => (length - (row.length : Int)).toNat) "row" "rest"
  k_with "pyIter ref" => first
    | k_state_given ["base"] (fun base pre number => My.NumRead base pre number) "number"
    | k_search (fun pre => My.AllDig base pre)
  open_ks0 with [.int 0, .int 0, .list []]
  rename Int => most
  revert most
  rename Int => base
  intros
  rename OpenSpec.pre _ _ = true => hpre
  have inw := My.read_lists hpre
  obtain ⟨⟨base0, base1⟩, ⟨most0, most1⟩, short1, inw1⟩ := inw
  ks_steps
  all_goals first
    | exact My.read_no hpre (by omega)
    | exact My.read_o hpre (by assumption) (My.ge_num (by omega) (by omega) (by omega)) (by omega) (by omega) (by omega) (by omega) (by omega)
    | exact My.read_o hpre (by assumption) (My.ge_low (by omega) (by omega) (by omega)) (by omega) (by omega) (by omega) (by omega) (by omega)
    | exact My.read_o hpre (by assumption) (My.ge_cap (by omega) (by omega) (by omega)) (by omega) (by omega) (by omega) (by omega) (by omega)
    | exact My.read_o hpre (by assumption) (My.ge_not (by omega) (by omega) (by omega) (by omega)) (by omega) (by omega) (by omega) (by omega) (by omega)
    | exact My.read_seven hpre (by assumption) (by assumption) (by assumption) (by omega) (by omega) (by omega) (by omega) (by omega) (by omega)
    | exact My.read_end hpre (by assumption) (by assumption) (by assumption) (by assumption) (by omega) (by omega) (by omega) (by omega) (by omega) (by omega) (by omega)
#print axioms PySem.Challenge.cw_longreckon_s08_read_holds
