import Derived.Test.YtgoihalolhmmdaaProg
import Derived.Test.YtgoihalolhmmdaaWorld
import Derived.Test.YtgoihalolhmmdaaSpec
import Derived.WalkKit
import Derived.WalkLawsBesides
import Derived.RegionTactic
import Derived.BigRegion
import Derived.KernelRfl
import Derived.Deep.QuietTactic
import Derived.BigQuiet
import Derived.Maps.AppendAt
namespace Go.Proofs.Ytgoihalolhmmdaa
open Go.RowKit

/-- A reader of bits at block r: the text s, and the place u. -/
structure Rdr (w : World) (r : Nat) (s : ByteArray) (u : Nat) : Prop where
  text : w.cell? ⟨r, 0, none⟩ = some (.string s)
  used : w.cell? ⟨r, 1, none⟩ = some (.int .i64 (u : Int))
  free : w.frozen? ⟨r, 1, none⟩ = false

theorem Rdr.of_block {w w' : World} {r : Nat} {s : ByteArray} {u : Nat} (h : Rdr w r s u) (hb : w'.heap[r]? = w.heap[r]?) : Rdr w' r s u :=
  ⟨(World.cell?_of_block (w := w) hb).trans h.text, (World.cell?_of_block (w := w) hb).trans h.used, (World.frozen?_of_block (w := w) hb).trans h.free⟩
theorem Rdr.lt {w : World} {r : Nat} {s : ByteArray} {u : Nat} (h : Rdr w r s u) : r < w.heap.size := World.block_lt_of_cell? _ _ h.text
theorem Rdr.alloc {w : World} {r : Nat} {s : ByteArray} {u : Nat} (h : Rdr w r s u) (o : Obj) : Rdr (w.alloc o) r s u := h.of_block (Below.heap_alloc _ _ _ h.lt)
theorem Rdr.step {w : World} {r : Nat} {s : ByteArray} {u : Nat} (h : Rdr w r s u) (x : Int) (hx : x = ((u + 1 : Nat) : Int)) : Rdr (w.setCell ⟨r, 1, none⟩ (.int .i64 x)) r s (u + 1) := by
  subst hx
  refine ⟨?_, World.cell?_setCell_same _ _ _ h.used, ?_⟩
  · rw [World.cell?_setCell_other _ _ _ _ (by simp)]; exact h.text
  · rw [World.frozen?_setCell]; exact h.free

theorem get_value (v bt k n : Nat) (hv : v < 18446744073709551616) (hb : bt < 256) :
    bits BinOp.or IntKind.u64 (v : Int) (IntKind.u64.wrap (IntKind.u64.wrap (bits BinOp.and IntKind.u8 ((bt : Int) / 2 ^ (n % 8)) 1) * 2 ^ min k 64)) = ((v ||| (if k < 64 then (bt.testBit (n % 8)).toNat * 2 ^ k else 0) : Nat) : Int) := by
  have e1 : (bt : Int) / 2 ^ (n % 8) = ((bt / 2 ^ (n % 8) : Nat) : Int) := by
    rw [Int.natCast_ediv]
    congr 1
  have e2 : bits BinOp.and IntKind.u8 ((bt / 2 ^ (n % 8) : Nat) : Int) 1 = ((bt / 2 ^ (n % 8) &&& 1 : Nat) : Int) := u8_and_nat _ 1 (Nat.lt_of_le_of_lt (Nat.div_le_self _ _) hb) (by omega)
  have e3 : bt / 2 ^ (n % 8) &&& 1 = (bt.testBit (n % 8)).toNat := by rw [Nat.and_one_is_mod, testBit_nat]
  have e4 : IntKind.u64.wrap ((bt.testBit (n % 8)).toNat : Int) = ((bt.testBit (n % 8)).toNat : Int) := by
    rw [IntKind.wrap_u64]; cases bt.testBit (n % 8) <;> rfl
  rw [e1, e2, e3, e4]
  have e5 : ((bt.testBit (n % 8)).toNat : Int) * 2 ^ min k 64 = (((bt.testBit (n % 8)).toNat * 2 ^ min k 64 : Nat) : Int) := by
    rw [Int.natCast_mul, Int.natCast_pow]; rfl
  rw [e5, IntKind.wrap_u64]
  by_cases hk : k < 64
  · rw [Nat.min_eq_left (by omega), if_pos hk]
    have h1 : 2 ^ k ≤ 2 ^ 63 := Nat.pow_le_pow_right (by omega) (by omega)
    have h2 : (bt.testBit (n % 8)).toNat * 2 ^ k < 18446744073709551616 := by
      have h3 : (2 : Nat) ^ 63 = 9223372036854775808 := by decide
      cases bt.testBit (n % 8) <;> simp <;> omega
    rw [Int.emod_eq_of_lt (by omega) (by omega)]
    exact u64_or_nat _ _ hv h2
  · rw [Nat.min_eq_right (by omega), if_neg hk, Nat.or_zero]
    have h1 : (((bt.testBit (n % 8)).toNat * 2 ^ 64 : Nat) : Int) % 18446744073709551616 = ((0 : Nat) : Int) := by
      cases bt.testBit (n % 8) <;> decide
    rw [h1]
    have := u64_or_nat v 0 hv (by omega)
    rwa [Nat.or_zero] at this

theorem index_text (s : ByteArray) (n : Nat) (h : n / 8 < s.size) (w : World) : (Instr.index 9 (.string s) (.int .i64 ((n : Int) / 8))).run Try.prog w = .ok (.int .u8 ((tbyte s (n / 8) : Nat) : Int)) w := by
  have hq : ((n : Int) / 8).toNat = n / 8 := by omega
  rw [run_index_string w 9 s _ _ Try.underlying9, dif_pos ⟨by omega, by omega⟩]
  have e : s[((n : Int) / 8).toNat]'(by omega) = s.data.toList.getD (n / 8) 0 := by
    simp only [hq]
    rw [List.getD, List.getElem?_eq_getElem (by rw [size_list]; exact h)]
    rfl
  rw [e]; rfl

set_option maxHeartbeats 800000 in
set_option maxRecDepth 1000000 in
theorem get_nat (r : Nat) (s : ByteArray) (u wd : Nat) (w : World) (h : Rdr w r s u) (hs : s.size ≤ 140737488351232) (hb : u + wd ≤ 1099511627776) :
    Calls Try.prog 20 #[.pointer (some ⟨r, 0, none⟩), .int .i64 (wd : Int)] w fun e w' => e = .returned (.int .u64 (rd s u wd : Int)) ∧ Rdr w' r s (u + wd) ∧ w.grownBy w' (some r) := by
  go_enter Try.func20, Try.ntmps20
  go_wp2
  go_loopw [5, 8] (fun v c wr => ∃ k : Nat, k ≤ wd ∧ c = .int .i64 k ∧ v = .int .u64 (rd s u k : Int) ∧ Hid (Rdr wr r s (u + k)) ∧ Hid (w.grownBy wr (some r))) (fun _ c _ => wd - (intOf c).toNat)
  case atStart => exact ⟨0, Nat.zero_le _, rfl, rfl, hide h, hide (World.grownBy.refl _ _)⟩
  case round =>
    obtain ⟨k, hk, rfl, rfl, HR, HG⟩ := hrel
    clear h
    by_cases hlt : k < wd
    · have hlt' : (k : Int) < (wd : Int) := by omega
      obtain ⟨n, hn⟩ : ∃ n, n = u + k := ⟨_, rfl⟩
      have hnb : n ≤ 1099511627776 := by omega
      have R0 := (unhide HR).text
      have R1 := (unhide HR).used
      have R2 := (unhide HR).free
      rw [← hn] at R1
      have HN := hide hn
      have hv := rd_lt s u k
      generalize hV : rd s u k = v at *
      have HV := hide hV
      clear hn hV
      by_cases hin : n / 8 < s.size
      · have hin' : (n : Int) / 8 < (s.size : Int) := by omega
        have hidx := index_text s n hin
        have hbt := tbyte_lt s (n / 8)
        generalize hBT : tbyte s (n / 8) = bt at *
        have HBT := hide hBT
        clear hBT
        go_wp2_with fail
        go_region
        go_wp2_with fail
        go_region
        go_wp2_with fail
        go_roundw
        case rel =>
          refine ⟨k + 1, by omega, by go_num, ?_, hide ?_, hide ?_⟩
          · rw [get_value v bt k n (by simpa using hv) hbt]
            have e : rd s u (k + 1) = v ||| (if k < 64 then (bt.testBit (n % 8)).toNat * 2 ^ k else 0) := by
              show rd s u k ||| (if k < 64 then (sbit s (u + k)).toNat * 2 ^ k else 0) = _
              rw [unhide HV, ← unhide HN, sbit, unhide HBT]
            rw [e]
          · have h := (unhide HR).step ((n : Int) + 1) (by rw [unhide HN]; omega)
            exact h.of_block rfl
          · have h := (unhide HG).trans (grownBy_setCell wr ⟨r, 1, none⟩ (.int .i64 ((n : Int) + 1)))
            exact ⟨h.os, h.tape, h.output, h.size, h.block⟩
        case measure => simp [intOf]; omega
      · have hin' : (s.size : Int) ≤ (n : Int) / 8 := by omega
        go_wp2_with fail
        go_quiet (fail)
        go_wp2_with fail
        go_roundw
        case rel =>
          refine ⟨k + 1, by omega, by go_num, ?_, hide ?_, hide ?_⟩
          · have e : rd s u (k + 1) = v := by
              show rd s u k ||| (if k < 64 then (sbit s (u + k)).toNat * 2 ^ k else 0) = _
              rw [unhide HV, ← unhide HN, sbit, tbyte_beyond s _ (by omega)]
              simp
            rw [e]
          · have h := (unhide HR).step ((n : Int) + 1) (by rw [unhide HN]; omega)
            exact h.of_block rfl
          · have h := (unhide HG).trans (grownBy_setCell wr ⟨r, 1, none⟩ (.int .i64 ((n : Int) + 1)))
            exact ⟨h.os, h.tape, h.output, h.size, h.block⟩
        case measure => simp [intOf]; omega
    · obtain rfl : k = wd := by omega
      go_wp2
      go_ret
      exact ⟨rfl, unhide HR, unhide HG⟩

theorem get_any (r : Nat) (s : ByteArray) (u : Nat) (wd : Int) (w : World) (h : Rdr w r s u) (hs : s.size ≤ 140737488351232) (h0 : 0 ≤ wd) (hb : u + wd.toNat ≤ 1099511627776) :
    Calls Try.prog 20 #[.pointer (some ⟨r, 0, none⟩), .int .i64 wd] w fun e w' => e = .returned (.int .u64 (rd s u wd.toNat : Int)) ∧ Rdr w' r s (u + wd.toNat) ∧ w.grownBy w' (some r) := by
  obtain ⟨wd, rfl⟩ := Int.eq_ofNat_of_zero_le h0
  rw [Int.toNat_natCast] at *
  exact get_nat r s u wd w h hs hb

end Go.Proofs.Ytgoihalolhmmdaa
