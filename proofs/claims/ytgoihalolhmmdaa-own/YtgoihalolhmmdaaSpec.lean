/-
  Plain mathematics: how a cell is laid and read.
-/
import Derived.Test.YtgoihalolhmmdaaBits
import Derived.Laws.MathBits
namespace Go.Proofs.Ytgoihalolhmmdaa

/-- A cell. -/
structure Cl where
  null : Bool
  n : Int
  s : ByteArray

theorem Cl.ext' {a b : Cl} (h1 : a.null = b.null) (h2 : a.n = b.n) (h3 : a.s = b.s) : a = b := by
  cases a; cases b; simp_all

def inInt (n : Int) : Prop := -9223372036854775808 ≤ n ∧ n ≤ 9223372036854775807

def foldN (n : Int) : Nat := if n < 0 then (2 * (-n - 1) + 1).toNat else (2 * n).toNat
def unfoldN (f : Nat) : Int := if f % 2 = 1 then -((f / 2 : Nat) : Int) - 1 else ((f / 2 : Nat) : Int)

theorem foldN_lt {n : Int} (h : inInt n) : foldN n < 18446744073709551616 := by
  unfold foldN; unfold inInt at h; split <;> omega
theorem unfold_fold (n : Int) : unfoldN (foldN n) = n := by
  unfold unfoldN foldN
  by_cases h : n < 0
  · rw [if_pos h, if_pos (by omega)]; omega
  · rw [if_neg h, if_neg (by omega)]; omega
theorem unfoldN_int {f : Nat} (h : f < 18446744073709551616) : inInt (unfoldN f) := by
  unfold unfoldN inInt; split <;> omega

theorem bitLen_lt (v : Nat) : v < 2 ^ bitLen v := (bitLen_spec v).1
theorem bitLen_le (v b : Nat) (h : v < 2 ^ b) : bitLen v ≤ b := by
  by_cases hv : v = 0
  · subst hv; simp [bitLen]
  · have h1 := (bitLen_spec v).2 hv
    rcases Nat.lt_or_ge b (bitLen v) with h2 | h2
    · have : 2 ^ b ≤ 2 ^ (bitLen v - 1) := Nat.pow_le_pow_right (by omega) (by omega)
      omega
    · exact h2
theorem bitLen_le64 {v : Nat} (h : v < 18446744073709551616) : bitLen v ≤ 64 := bitLen_le v 64 (by simpa using h)

theorem xor_ones (m : Nat) (h : m < 18446744073709551616) : 18446744073709551615 ^^^ m = 18446744073709551615 - m := by
  have e := congrArg BitVec.toNat (BitVec.allOnes_xor (x := BitVec.ofNat 64 m))
  rw [BitVec.toNat_xor, BitVec.toNat_not, BitVec.toNat_allOnes, BitVec.toNat_ofNat, Nat.mod_eq_of_lt (by simpa using h)] at e
  simpa using e

theorem fold_neg (n : Int) (h : inInt n) (hn : n < 0) :
    bits BinOp.or IntKind.u64 (IntKind.u64.wrap (bits BinOp.xor IntKind.u64 IntKind.u64.max (IntKind.u64.wrap n) * 2)) 1 = ((foldN n : Nat) : Int) := by
  have hh := h
  unfold inInt at h
  have e1 : IntKind.u64.wrap n = (((n + 18446744073709551616).toNat : Nat) : Int) := by rw [IntKind.wrap_u64]; omega
  have e2 : IntKind.u64.max = ((18446744073709551615 : Nat) : Int) := by decide
  rw [e1, e2, u64_xor_nat _ _ (by omega) (by omega), xor_ones _ (by omega), IntKind.wrap_u64]
  have e3 : ((18446744073709551615 - (n + 18446744073709551616).toNat : Nat) : Int) * 2 % 18446744073709551616 = ((2 * (-n - 1).toNat : Nat) : Int) := by omega
  rw [e3]
  have e4 := u64_or_nat (2 * (-n - 1).toNat) 1 (by omega) (by omega)
  have e5 : (2 * (-n - 1).toNat) ||| 1 = 2 * (-n - 1).toNat + 1 := by
    have := nat_join 1 (2 * (-n - 1).toNat) 1 (by omega) (by omega)
    exact this
  rw [e5] at e4
  refine e4.trans ?_
  unfold foldN
  rw [if_pos hn]
  omega

theorem wrap_u64_byte (b : UInt8) : IntKind.u64.wrap (b.toNat : Int) = (b.toNat : Int) := by
  have := UInt8.toNat_lt b
  rw [IntKind.wrap_u64]; omega

def encNum (n : Int) : List Bool := bitsOf (bitLen (foldN n) + 1) 8 ++ bitsOf (foldN n) (bitLen (foldN n))
def encBytes (wd : Nat) (bs : List UInt8) : List Bool := bs.flatMap fun b => bitsOf b.toNat wd
def encCell (k : Int) (c : Cl) : List Bool :=
  if c.null then bitsOf 0 8 else if k = 1 then bitsOf (c.s.size + 1) 8 ++ encBytes 8 c.s.data.toList else encNum c.n

theorem encBytes_length (wd : Nat) (bs : List UInt8) : (encBytes wd bs).length = bs.length * wd := by
  induction bs with
  | nil => simp [encBytes]
  | cons b r ih =>
    have e : encBytes wd (b :: r) = bitsOf b.toNat wd ++ encBytes wd r := rfl
    rw [e, List.length_append, ih, bitsOf_length, List.length_cons, Nat.succ_mul]; omega
theorem encBytes_snoc (wd : Nat) (bs : List UInt8) (b : UInt8) : encBytes wd (bs ++ [b]) = encBytes wd bs ++ bitsOf b.toNat wd := by
  simp [encBytes, List.flatMap_append]
theorem size_list (s : ByteArray) : s.data.toList.length = s.size := by rw [Array.length_toList]; rfl

theorem encNum_length (n : Int) : (encNum n).length = 8 + bitLen (foldN n) := by simp [encNum, bitsOf_length]
theorem encCell_le (k : Int) (c : Cl) (hn : inInt c.n) : (encCell k c).length ≤ 72 + 8 * c.s.size := by
  unfold encCell
  have h := bitLen_le64 (foldN_lt hn)
  split
  · simp [bitsOf_length]; omega
  · split
    · simp only [List.length_append, bitsOf_length, encBytes_length, size_list]; omega
    · rw [encNum_length]; omega

/-- n letters of wd bits each, from place u on. -/
def rdStr (s : ByteArray) (u wd : Nat) : Nat → List UInt8
  | 0 => []
  | n + 1 => rdStr s u wd n ++ [UInt8.ofNat (rd s (u + n * wd) wd % 256)]

theorem rdStr_length (s : ByteArray) (u wd n : Nat) : (rdStr s u wd n).length = n := by
  induction n with
  | zero => rfl
  | succ n ih => simp [rdStr, ih]

/-- A cell, from place u on; and the place behind it. -/
def decCell (s : ByteArray) (k : Int) (u : Nat) : Cl × Nat :=
  if rd s u 8 = 0 then (⟨true, 0, ByteArray.empty⟩, u + 8)
  else if k = 1 then (⟨false, 0, ⟨(rdStr s (u + 8) 8 (rd s u 8 - 1)).toArray⟩⟩, u + 8 + (rd s u 8 - 1) * 8)
  else (⟨false, unfoldN (rd s (u + 8) (rd s u 8 - 1)), ByteArray.empty⟩, u + 8 + (rd s u 8 - 1))

/-- A cell of kind k. -/
def FitsK (k : Int) (c : Cl) : Prop :=
  inInt c.n ∧ (if c.null then c.n = 0 ∧ c.s = ByteArray.empty
    else if k = 0 then c.s = ByteArray.empty
    else if k = 1 then c.n = 0 ∧ c.s.size ≤ 12 ∧ ∀ b ∈ c.s.data.toList, 32 ≤ b.toNat ∧ b.toNat ≤ 126 ∧ b.toNat ≠ 39
    else if k = 2 then c.s = ByteArray.empty ∧ (c.n = 0 ∨ c.n = 1)
    else False)

theorem rdStr_of_at {s : ByteArray} {u wd : Nat} (bs : List UInt8) (hw : wd ≤ 64) (hb : ∀ b ∈ bs, b.toNat < 2 ^ wd) :
    ∀ n, n ≤ bs.length → At s u (encBytes wd (bs.take n)) → rdStr s u wd n = bs.take n := by
  intro n
  induction n with
  | zero => intro _ _; rfl
  | succ n ih =>
    intro hn hat
    have et : bs.take (n + 1) = bs.take n ++ [bs[n]] := by rw [List.take_succ_eq_append_getElem hn]
    rw [et, encBytes_snoc, At.append] at hat
    rw [et, rdStr, ih (by omega) hat.1]
    have hl : (encBytes wd (bs.take n)).length = n * wd := by rw [encBytes_length, List.length_take, Nat.min_eq_left (by omega)]
    have h2 := hat.2
    rw [hl] at h2
    rw [rd_of_at h2 hw (hb _ (List.getElem_mem _))]
    congr 2
    have := UInt8.toNat_lt bs[n]
    rw [Nat.mod_eq_of_lt (by omega)]
    exact UInt8.ofNat_toNat

theorem dec_enc {s : ByteArray} {k : Int} {u : Nat} {c : Cl} (hc : FitsK k c) (hat : At s u (encCell k c)) :
    decCell s k u = (c, u + (encCell k c).length) := by
  obtain ⟨hn, hc⟩ := hc
  have hfl := foldN_lt hn
  have hbl := bitLen_le64 hfl
  unfold encCell at hat ⊢
  by_cases h0 : c.null = true
  · rw [if_pos h0] at hat hc ⊢
    unfold decCell
    rw [if_pos (rd_of_at hat (by omega) (by omega)), bitsOf_length]
    refine congrArg (fun x => (x, u + 8)) (Cl.ext' h0.symm ?_ ?_)
    · exact hc.1.symm
    · exact hc.2.symm
  · rw [if_neg h0] at hat hc ⊢
    have h0' : c.null = false := by simpa using h0
    by_cases h1 : k = 1
    · subst h1
      rw [if_pos rfl] at hat ⊢
      rw [if_neg (by omega), if_pos rfl] at hc
      rw [At.append, bitsOf_length] at hat
      have e := rd_of_at hat.1 (by omega) (by have := hc.2.1; omega)
      unfold decCell
      rw [if_neg (by rw [e]; omega), if_pos rfl, e]
      have hs := rdStr_of_at (s := s) (u := u + 8) (wd := 8) c.s.data.toList (by omega) (fun b _ => UInt8.toNat_lt b) c.s.size (by rw [size_list]; omega)
        (by rw [List.take_of_length_le (by rw [size_list]; omega)]; exact hat.2)
      rw [List.take_of_length_le (by rw [size_list]; omega)] at hs
      rw [show c.s.size + 1 - 1 = c.s.size from rfl, hs]
      simp only [List.length_append, bitsOf_length, encBytes_length, size_list]
      refine Prod.ext (Cl.ext' h0'.symm hc.1.symm rfl) (by omega)
    · rw [if_neg h1] at hat ⊢
      unfold encNum at hat ⊢
      rw [At.append, bitsOf_length] at hat
      have e := rd_of_at hat.1 (by omega) (by omega)
      unfold decCell
      rw [if_neg (by rw [e]; omega), if_neg h1, e, show bitLen (foldN c.n) + 1 - 1 = bitLen (foldN c.n) from rfl, rd_of_at hat.2 hbl (bitLen_lt _), unfold_fold]
      simp only [List.length_append, bitsOf_length]
      have hse : c.s = ByteArray.empty := by
        by_cases hk0 : k = 0
        · rw [if_pos hk0] at hc; exact hc
        · rw [if_neg hk0, if_neg h1] at hc
          by_cases hk2 : k = 2
          · rw [if_pos hk2] at hc; exact hc.1
          · rw [if_neg hk2] at hc; exact hc.elim
      refine Prod.ext (Cl.ext' h0'.symm rfl hse.symm) (by omega)

end Go.Proofs.Ytgoihalolhmmdaa
