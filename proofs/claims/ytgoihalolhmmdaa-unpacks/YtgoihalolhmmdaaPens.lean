import Derived.Test.YtgoihalolhmmdaaPut
import Derived.Test.YtgoihalolhmmdaaLen
import Derived.Test.YtgoihalolhmmdaaSpec
namespace Go.Proofs.Ytgoihalolhmmdaa
open Go.RowKit

/-- 'put' at whatever numbers. -/
theorem put_int (K : Nat → Prop) (p : Nat) (l : List Bool) (v wd : Int) (w : World) (hw : Writer K w p l) (h0 : 0 ≤ v) (hv : v < 18446744073709551616) (h1 : 0 ≤ wd) (hb : l.length + wd.toNat ≤ 1099511627776) :
    Calls Try.prog 17 #[.pointer (some ⟨p, 0, none⟩), .int .u64 v, .int .i64 wd] w fun e w' => e = .returned (.tuple #[]) ∧ Writer K w' p (l ++ bitsOf v.toNat wd.toNat) ∧ Keeps K w w' := by
  obtain ⟨v, rfl⟩ := Int.eq_ofNat_of_zero_le h0
  obtain ⟨wd, rfl⟩ := Int.eq_ofNat_of_zero_le h1
  rw [Int.toNat_natCast, Int.toNat_natCast]
  exact put_any K p l v wd w hw (by omega) (by simpa using hb)

set_option maxHeartbeats 400000 in
set_option maxRecDepth 100000 in
theorem fold_any (n : Int) (w : World) (h : inInt n) : Calls Try.prog 55 #[.int .i64 n] w fun e w' => e = .returned (.int .u64 (foldN n : Int)) ∧ w = w' := by
  have hh := h
  unfold inInt at h
  obtain ⟨ha, hb⟩ := h
  by_cases hn : n < 0
  · go_enter Try.func55, Try.ntmps55
    go_wp2
    go_ret
    exact ⟨congrArg Ending.returned (congrArg (Value.int IntKind.u64) (fold_neg n hh (by omega))), rfl⟩
  · go_enter Try.func55, Try.ntmps55
    go_wp2
    go_ret
    exact ⟨congrArg Ending.returned (congrArg (Value.int IntKind.u64) (by unfold foldN; rw [if_neg (by omega)]; omega)), rfl⟩

set_option maxHeartbeats 400000 in
set_option maxRecDepth 100000 in
theorem flag_any (K : Nat → Prop) (p : Nat) (l : List Bool) (b : Bool) (w : World) (hw : Writer K w p l) (hb : l.length + 1 ≤ 1099511627776) :
    Calls Try.prog 44 #[.pointer (some ⟨p, 0, none⟩), .bool b] w fun e w' => e = .returned (.tuple #[]) ∧ Writer K w' p (l ++ [b]) ∧ Keeps K w w' := by
  have HW := hide hw
  clear hw
  cases b
  · go_enter Try.func44, Try.ntmps44
    go_wp2_with (go_at_call 17; refine (put_int K p l _ _ _ (unhide HW) (by omega) (by omega) (by omega) (by simpa using hb)).mono ?_; rintro e w' ⟨rfl, h1, h2⟩)
    go_end0
    exact ⟨rfl, h1, h2⟩
  · go_enter Try.func44, Try.ntmps44
    go_wp2_with (go_at_call 17; refine (put_int K p l _ _ _ (unhide HW) (by omega) (by omega) (by omega) (by simpa using hb)).mono ?_; rintro e w' ⟨rfl, h1, h2⟩)
    go_end0
    exact ⟨rfl, h1, h2⟩

set_option maxHeartbeats 400000 in
set_option maxRecDepth 100000 in
theorem putString_any (K : Nat → Prop) (p : Nat) (l : List Bool) (s : ByteArray) (wd : Int) (w : World) (hw : Writer K w p l) (h0 : 0 ≤ wd) (h1 : wd ≤ 64) (hs : s.size ≤ 1000) (hb : l.length ≤ 549755813888) :
    Calls Try.prog 53 #[.pointer (some ⟨p, 0, none⟩), .string s, .int .i64 wd] w fun e w' => e = .returned (.tuple #[]) ∧ Writer K w' p (l ++ encBytes wd.toNat s.data.toList) ∧ Keeps K w w' := by
  obtain ⟨wd, rfl⟩ := Int.eq_ofNat_of_zero_le h0
  rw [Int.toNat_natCast]
  go_enter Try.func53, Try.ntmps53
  go_wp2
  go_loopw [9] (fun c wr => ∃ k : Nat, k ≤ s.size ∧ c = .int .i64 k ∧ Writer K wr p (l ++ encBytes wd (s.data.toList.take k)) ∧ Keeps K w wr) (fun c _ => s.size - (intOf c).toNat)
  case atStart => exact ⟨0, Nat.zero_le _, rfl, by simpa [encBytes] using hw, Keeps.refl _ _⟩
  case round =>
    obtain ⟨k, hk, rfl, hwr, hkeep⟩ := hrel
    have HW := hide hwr
    have HK := hide hkeep
    clear hw hwr hkeep
    by_cases hlt : k < s.size
    · have hlt' : (k : Int) < (s.size : Int) := by omega
      go_wp2_with fail
      have hlen : (l ++ encBytes wd (s.data.toList.take k)).length ≤ 549755813888 + 64000 := by
        rw [List.length_append, encBytes_length, List.length_take]
        have : min k s.data.toList.length * wd ≤ 1000 * 64 := Nat.mul_le_mul (by omega) (by omega)
        omega
      rw [wrap_u64_byte]
      refine (put_int K p _ _ _ _ (unhide HW) (by omega) (by have := UInt8.toNat_lt s[k]; omega) (by omega) (by rw [Int.toNat_natCast]; omega)).mono ?_
      rintro e w' ⟨rfl, h2, h3⟩
      have H2 := hide h2
      have H3 := hide h3
      clear h2 h3
      go_wp2
      go_roundw
      case rel =>
        refine ⟨k + 1, by omega, by go_num, ?_, (unhide HK).trans (unhide H3)⟩
        have h2 := unhide H2
        simp only [Int.toNat_natCast] at h2
        rw [List.take_succ_eq_append_getElem (by rw [size_list]; omega), encBytes_snoc, ← List.append_assoc]
        exact h2
      case measure => simp [intOf]; omega
    · obtain rfl : k = s.size := by omega
      go_wp2
      go_end0
      refine ⟨rfl, ?_, unhide HK⟩
      have := unhide HW
      rwa [List.take_of_length_le (by rw [size_list]; omega)] at this

set_option maxHeartbeats 400000 in
set_option maxRecDepth 100000 in
theorem putNumber_any (K : Nat → Prop) (p : Nat) (l : List Bool) (n : Int) (w : World) (hw : Writer K w p l) (hn : inInt n) (hb : l.length ≤ 549755813888) :
    Calls Try.prog 54 #[.pointer (some ⟨p, 0, none⟩), .int .i64 n] w fun e w' => e = .returned (.tuple #[]) ∧ Writer K w' p (l ++ encNum n) ∧ Keeps K w w' := by
  have HW := hide hw
  have HN := hide hn
  clear hw hn
  go_enter Try.func54, Try.ntmps54
  go_wp2_with fail
  refine (fold_any _ _ (unhide HN)).mono ?_
  rintro e w' ⟨rfl, rfl⟩
  have hf := foldN_lt (unhide HN)
  generalize hF : foldN n = f at *
  have HF := hide hF
  clear hF
  go_wp2_with fail
  refine (len64_any _ _ (by omega) (by omega)).mono ?_
  rintro e w' ⟨rfl, rfl⟩
  rw [Int.toNat_natCast]
  have hl := bitLen_le64 hf
  generalize hL : bitLen f = m at *
  have HL := hide hL
  clear hL
  go_wp2_with fail
  refine (put_int K p l _ _ _ (unhide HW) (by omega) (by omega) (by omega) (by rw [show Int.toNat 8 = 8 from rfl]; omega)).mono ?_
  rintro e w1 ⟨rfl, h2, h3⟩
  have H2 := hide h2
  have H3 := hide h3
  clear h2 h3
  go_wp2_with fail
  refine (put_int K p _ _ _ _ (unhide H2) (by omega) (by omega) (by omega) (by rw [List.length_append, bitsOf_length, Int.toNat_natCast]; simp; omega)).mono ?_
  rintro e w2 ⟨rfl, h4, h5⟩
  have H4 := hide h4
  have H5 := hide h5
  clear h4 h5
  go_wp2
  go_end0
  refine ⟨rfl, ?_, (unhide H3).trans (unhide H5)⟩
  have h4 := unhide H4
  rw [Int.toNat_natCast, Int.toNat_natCast, List.append_assoc] at h4
  unfold encNum
  rw [unhide HF, unhide HL]
  have e : (((m : Int) + 1)).toNat = m + 1 := by omega
  rw [e] at h4
  exact h4

set_option maxHeartbeats 400000 in
set_option maxRecDepth 100000 in
theorem putCell_any (K : Nat → Prop) (p : Nat) (l : List Bool) (k : Int) (c : Cl) (w : World) (hw : Writer K w p l) (hn : inInt c.n) (hs : c.s.size ≤ 1000) (hb : l.length ≤ 274877906944) :
    Calls Try.prog 50 #[.pointer (some ⟨p, 0, none⟩), .int .i64 k, .agg #[.bool c.null, .int .i64 c.n, .string c.s]] w fun e w' => e = .returned (.tuple #[]) ∧ Writer K w' p (l ++ encCell k c) ∧ Keeps K w w' := by
  obtain ⟨nl, n, s⟩ := c
  simp only at hn hs
  have HW := hide (hw.alloc (.cells #[.bool nl, .int .i64 n, .string s] 37))
  have HK := hide ((Keeps.refl K w).alloc hw.old (.cells #[.bool nl, .int .i64 n, .string s] 37))
  have HN := hide hn
  have HA := hide (hw.also (K' := fun b => K b ∨ b = w.heap.size) (World.grownBy_alloc w (.cells #[.bool nl, .int .i64 n, .string s] 37) none) (fun b hb => hb.elim .inl (fun e => .inr (by subst e; simp))))
  clear hw hn
  cases nl
  · by_cases h1 : k = 1
    · subst h1
      go_enter Try.func50, Try.ntmps50
      go_wp2_with fail
      refine (put_int (fun b => K b ∨ b = w.heap.size) p l _ _ _ (unhide HA) (by omega) (by omega) (by omega) (by rw [show Int.toNat 8 = 8 from rfl]; omega)).mono ?_
      rintro e w1 ⟨rfl, h2, h3⟩
      have hc : w1.cell? ⟨w.heap.size, 2, none⟩ = some (.string s) := (h3.cell (p := ⟨w.heap.size, 2, none⟩) (.inr rfl)).trans (by rw [World.cell?_alloc_at _ _ _ _ rfl]; rfl)
      have H2 := hide h2
      have H3 := hide (h3.mono (K' := K) (fun b hb => .inl hb))
      clear h2 h3
      go_wp2_with fail
      refine (putString_any _ p _ s _ _ (unhide H2) (by omega) (by omega) hs (by rw [List.length_append, bitsOf_length]; simp; omega)).mono ?_
      rintro e w2 ⟨rfl, h2, h3⟩
      have H4 := hide (h2.less (K' := K) (fun b hb => .inl hb))
      have H5 := hide (h3.mono (K' := K) (fun b hb => .inl hb))
      clear h2 h3
      go_wp2
      go_end0
      refine ⟨rfl, ?_, ((unhide HK).trans (unhide H3)).trans (unhide H5)⟩
      have h4 := unhide H4
      have e1 : ((s.size : Int) + 1).toNat = s.size + 1 := by omega
      rw [e1, List.append_assoc] at h4
      exact h4
    · have h1' : (k == 1) = false := by rw [beq_eq_false_iff_ne]; exact h1
      have H1 := hide h1
      clear h1
      go_enter Try.func50, Try.ntmps50
      go_wp2_with fail
      refine (putNumber_any K p l _ _ (unhide HW) (unhide HN) (by omega)).mono ?_
      rintro e w1 ⟨rfl, h2, h3⟩
      have H2 := hide h2
      have H3 := hide h3
      clear h2 h3
      go_wp2
      go_end0
      refine ⟨rfl, ?_, (unhide HK).trans (unhide H3)⟩
      have e : encCell k ⟨false, n, s⟩ = encNum n := by unfold encCell; rw [if_neg (by simp), if_neg (unhide H1)]
      rw [e]
      exact unhide H2
  · go_enter Try.func50, Try.ntmps50
    go_wp2_with fail
    refine (put_int K p l _ _ _ (unhide HW) (by omega) (by omega) (by omega) (by rw [show Int.toNat 8 = 8 from rfl]; omega)).mono ?_
    rintro e w1 ⟨rfl, h2, h3⟩
    have H2 := hide h2
    have H3 := hide h3
    clear h2 h3
    go_wp2
    go_end0
    exact ⟨rfl, unhide H2, (unhide HK).trans (unhide H3)⟩

end Go.Proofs.Ytgoihalolhmmdaa
