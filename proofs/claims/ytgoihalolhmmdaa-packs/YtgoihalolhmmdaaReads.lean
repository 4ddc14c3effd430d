import Derived.Test.YtgoihalolhmmdaaGet
import Derived.Test.YtgoihalolhmmdaaPack
import Derived.Maps.RangeWalk
namespace Go.Proofs.Ytgoihalolhmmdaa
open Go.RowKit

theorem Rdr.kept {w w' : World} {r : Nat} {s : ByteArray} {u : Nat} {row : Option Nat} (h : Rdr w r s u) (hg : w.grownBy w' row) (hr : some r ≠ row) : Rdr w' r s u := h.of_block (hg.block r h.lt hr)

theorem unfold_odd (f : Nat) (h : f < 18446744073709551616) (ho : f % 2 = 1) : wrap64 (bits BinOp.xor IntKind.u64 IntKind.u64.max ((f : Int) / 2)) = unfoldN f := by
  have e2 : IntKind.u64.max = ((18446744073709551615 : Nat) : Int) := by decide
  have e1 : (f : Int) / 2 = ((f / 2 : Nat) : Int) := by omega
  rw [e1, e2, u64_xor_nat _ _ (by omega) (by omega), xor_ones _ (by omega)]
  unfold unfoldN
  rw [if_pos ho]
  unfold wrap64
  omega

set_option maxHeartbeats 400000 in
set_option maxRecDepth 100000 in
theorem unfold_any (f : Nat) (w : World) (h : f < 18446744073709551616) : Calls Try.prog 52 #[.int .u64 (f : Int)] w fun e w' => e = .returned (.int .i64 (unfoldN f)) ∧ w = w' := by
  have ha : bits BinOp.and IntKind.u64 (f : Int) 1 = ((f % 2 : Nat) : Int) := by
    have := u64_and_nat f 1 h (by omega)
    rwa [Nat.and_one_is_mod] at this
  by_cases ho : f % 2 = 1
  · have hb : (bits BinOp.and IntKind.u64 (f : Int) 1 == 1) = true := by rw [ha, ho]; rfl
    have HO := hide (unfold_odd f h ho)
    clear ho ha
    go_enter Try.func52, Try.ntmps52
    go_wp2
    go_ret
    exact ⟨congrArg Ending.returned (congrArg (Value.int IntKind.i64) (unhide HO)), rfl⟩
  · have hb : (bits BinOp.and IntKind.u64 (f : Int) 1 == 1) = false := by rw [ha, show f % 2 = 0 by omega]; rfl
    have HO : Hid ((f : Int) / 2 = unfoldN f) := hide (by unfold unfoldN; rw [if_neg ho]; omega)
    clear ho ha
    go_enter Try.func52, Try.ntmps52
    go_wp2
    go_ret
    exact ⟨congrArg Ending.returned (congrArg (Value.int IntKind.i64) (unhide HO)), rfl⟩

set_option maxHeartbeats 400000 in
set_option maxRecDepth 100000 in
theorem getFlag_any (r : Nat) (s : ByteArray) (u : Nat) (w : World) (h : Rdr w r s u) (hs : s.size ≤ 140737488351232) (hb : u + 1 ≤ 1099511627776) :
    Calls Try.prog 45 #[.pointer (some ⟨r, 0, none⟩)] w fun e w' => e = .returned (.bool (sbit s u)) ∧ Rdr w' r s (u + 1) ∧ w.grownBy w' (some r) := by
  have H := hide h
  have e1 : rd s u 1 = (sbit s u).toNat := by simp [rd]
  have HE := hide e1
  clear h e1
  go_enter Try.func45, Try.ntmps45
  go_wp2_with fail
  refine (get_any r s u _ w (unhide H) hs (by omega) (by rw [show Int.toNat 1 = 1 from rfl]; exact hb)).mono ?_
  rintro e w1 ⟨rfl, h1, h2⟩
  rw [show Int.toNat 1 = 1 from rfl] at *
  rw [unhide HE]
  have H1 := hide h1
  have H2 := hide h2
  clear h1 h2
  cases hsb : sbit s u
  · have HS := hide hsb
    clear hsb
    go_wp2
    go_ret
    exact ⟨by rw [unhide HS]; rfl, unhide H1, unhide H2⟩
  · have HS := hide hsb
    clear hsb
    go_wp2
    go_ret
    exact ⟨by rw [unhide HS]; rfl, unhide H1, unhide H2⟩

theorem text_row {w : World} {base g cap : Nat} {bs : List UInt8} (h : w.ownsRow base 5 1 (.slice (some ⟨g, 0, none⟩) bs.length cap) bs.length (u8s (bs.map UInt8.toNat))) : (convert 44 9 (.slice (some ⟨g, 0, none⟩) bs.length cap)).run Try.prog w = .ok (.string ⟨bs.toArray⟩) w := by
  rw [run_convert_bytes_string w 44 9 5 _ _ _ Try.underlying44 Try.underlying5 Try.underlying9]
  have hl : (loadCells ⟨g, 0, none⟩ bs.length).run Try.prog w = .ok (((bs.map UInt8.toNat).map (fun (n : Nat) => (n : Int))).map (Value.int .u8)).toArray w := by
    have := run_loadCells_list (P := Try.prog) w ⟨g, 0, none⟩ (u8s (bs.map UInt8.toNat)) (h.cells rfl)
    rw [show (u8s (bs.map UInt8.toNat)).length = bs.length by simp [u8s]] at this
    rw [this]
    simp [u8s, Function.comp_def]
  rw [run_bytesToString w _ _ _ _ hl, fold_push]
  have e : (bs.map UInt8.toNat).map UInt8.ofNat = bs := by
    rw [List.map_map]
    exact (List.map_congr_left (fun b _ => UInt8.ofNat_toNat)).trans (List.map_id _)
  rw [e]
  simp

theorem grownBy_setNew {w w' : World} {row : Option Nat} (h : w.grownBy w' row) {a : Addr} (ha : w.heap.size ≤ a.block) (v : Value) : w.grownBy (w'.setCell a v) row :=
  ⟨h.os, h.tape, h.output, by simpa [World.setCell] using h.size, fun k hk hr => (Below.heap_setCell w' a v k (by omega)).trans (h.block k hk hr)⟩

theorem set_next (A : List Nat) (m : Nat) (v : Nat) : (u8s (A ++ List.replicate (m + 1) 0)).set A.length (.int .u8 (v : Int)) = u8s ((A ++ [v]) ++ List.replicate m 0) := by
  simp [u8s, List.replicate_succ]
theorem made_zero (n : Nat) : (madeCells (Value.int .u8 0).cells (n * 1)).toList = u8s (List.replicate n 0) := by
  have : ∀ x : Nat, [Value.int .u8 0][x % 1]?.getD default = Value.int .u8 0 := fun x => by rw [Nat.mod_one]; rfl
  simp [madeCells, u8s, Value.cells, this, List.map_const']

set_option maxHeartbeats 800000 in
set_option maxRecDepth 100000 in
theorem getString_any (r : Nat) (s : ByteArray) (u : Nat) (n wd : Int) (w : World) (h : Rdr w r s u) (hs : s.size ≤ 140737488351232) (h0 : 0 ≤ n) (h1 : n ≤ 1000) (h2 : 0 ≤ wd) (h3 : wd ≤ 64) (hb : u ≤ 549755813888) :
    Calls Try.prog 51 #[.pointer (some ⟨r, 0, none⟩), .int .i64 n, .int .i64 wd] w fun e w' => e = .returned (.string ⟨(rdStr s u wd.toNat n.toNat).toArray⟩) ∧ Rdr w' r s (u + n.toNat * wd.toNat) ∧ w.grownBy w' (some r) := by
  obtain ⟨n, rfl⟩ := Int.eq_ofNat_of_zero_le h0
  obtain ⟨wd, rfl⟩ := Int.eq_ofNat_of_zero_le h2
  rw [Int.toNat_natCast, Int.toNat_natCast]
  obtain ⟨i0, hi, hz0, hz1, hz2⟩ := info_parts Try.info5
  have H := hide h
  clear h
  go_enter Try.func51, Try.ntmps51
  go_wp2_with (at_make; refine wpList_make_full _ rfl _ _ 44 rfl w.heap.size 5 i0 (.int .u8 0) 1 Try.underlying44 hi hz0 hz1 _ _ _ _ n rfl rfl rfl rfl (by rw [hz2]; omega) (by unfold maxLen; omega) (Nat.le_refl _) ?_; intro w1 hown hgrow)
  rw [made_zero] at hown
  have hr1 := (unhide H).kept hgrow (by simp)
  have HOWN := hide hown
  have HG := hide (hgrow.but (some r))
  have HR := hide hr1
  have hrn : r < w.heap.size := (unhide H).lt
  clear hown hgrow hr1
  go_wp2
  go_loopw [13] (fun c wr => ∃ k : Nat, k ≤ n ∧ c = .int .i64 k ∧ Hid (wr.ownsRow w.heap.size 5 1 (.slice (some ⟨w.heap.size, 0, none⟩) n n) n (u8s ((rdStr s u wd k).map UInt8.toNat ++ List.replicate (n - k) 0))) ∧ Hid (Rdr wr r s (u + k * wd)) ∧ Hid (w.grownBy wr (some r))) (fun c _ => n - (intOf c).toNat)
  case atStart => exact ⟨0, Nat.zero_le _, rfl, hide (by simpa [rdStr] using unhide HOWN), hide (by simpa using unhide HR), HG⟩
  case round =>
    obtain ⟨k, hk, rfl, HO, HRK, HGK⟩ := hrel
    by_cases hlt : k < n
    · have hlt' : (k : Int) < (n : Int) := by omega
      have hkw : k * wd ≤ 1000 * 64 := Nat.mul_le_mul (by omega) (by omega)
      go_wp2_with fail
      refine (get_any r s (u + k * wd) _ wr (unhide HRK) hs (by omega) (by rw [Int.toNat_natCast]; omega)).mono ?_
      rintro e w2 ⟨rfl, h4, h5⟩
      rw [Int.toNat_natCast] at *
      have ho2 := (unhide HO).kept h5 (by simp [Value.ownBlock]; omega)
      have hlen2 : (u8s ((rdStr s u wd k).map UInt8.toNat ++ List.replicate (n - k) 0)).length = n := by simp [u8s, rdStr_length]; omega
      have hcell : w2.cell? ⟨w.heap.size, k, none⟩ = some (.int .u8 0) := by
        rw [ho2.cellAt k (by omega), u8s_get (by simp [rdStr_length]; omega)]
        congr 2
        simp [List.getD, rdStr_length, show 0 < n - k by omega]
      have hfz := ho2.frozenAt k
      have H4 := hide h4
      have H5 := hide h5
      have HO2 := hide ho2
      clear h4 h5 ho2 hlen2
      have hvb := rd_lt s (u + k * wd) wd
      generalize hV : rd s (u + k * wd) wd = v at *
      have HV := hide hV
      clear hV
      go_wp2_with fail
      go_roundw
      case rel =>
        refine ⟨k + 1, by omega, by go_num, hide ?_, hide ?_, hide ?_⟩
        · have h := ((unhide HO2).stored k (.int .u8 ((v % 256 : Nat) : Int))).1
          have e := set_next ((rdStr s u wd k).map UInt8.toNat) (n - (k + 1)) (v % 256)
          rw [List.length_map, rdStr_length, show n - (k + 1) + 1 = n - k by omega] at e
          rw [e] at h
          have e2 : (rdStr s u wd (k + 1)).map UInt8.toNat = (rdStr s u wd k).map UInt8.toNat ++ [v % 256] := by
            rw [rdStr, List.map_append, unhide HV]
            congr 1
            simp only [List.map_cons, List.map_nil]
            rw [UInt8.toNat_ofNat_of_lt' (by have := Nat.mod_lt v (show 0 < 256 by omega); exact this)]
          rw [e2]
          exact h
        · have h := unhide H4
          rw [show u + (k + 1) * wd = u + k * wd + wd by rw [Nat.succ_mul]; omega]
          exact h.of_block (Below.heap_setCell _ _ _ _ (by show r ≠ w.heap.size; omega))
        · exact grownBy_setNew ((unhide HGK).trans (unhide H5)) (Nat.le_refl _) _
      case measure => simp [intOf]; omega
    · obtain rfl : k = n := by omega
      have ho := unhide HO
      rw [Nat.sub_self, List.replicate_zero, List.append_nil] at ho
      have ht := text_row (bs := rdStr s u wd k) (by rw [rdStr_length]; exact ho)
      rw [rdStr_length] at ht
      clear ho
      go_wp2
      go_ret
      exact ⟨rfl, unhide HRK, unhide HGK⟩

set_option maxHeartbeats 800000 in
set_option maxRecDepth 100000 in
theorem getCell_any (r : Nat) (s : ByteArray) (u : Nat) (k : Int) (w : World) (h : Rdr w r s u) (hs : s.size ≤ 140737488351232) (hb : u ≤ 274877906944) :
    Calls Try.prog 48 #[.pointer (some ⟨r, 0, none⟩), .int .i64 k] w fun e w' => e = .returned (.agg #[.bool (decCell s k u).1.null, .int .i64 (decCell s k u).1.n, .string (decCell s k u).1.s]) ∧ Rdr w' r s (decCell s k u).2 ∧ w.grownBy w' (some r) := by
  have H := hide (h.alloc (.cells #[.bool false, .int .i64 0, .string ByteArray.empty] 37))
  have hrl := h.lt
  clear h
  have hrd := rd_lt_pow s u 8
  go_enter Try.func48, Try.ntmps48
  go_wp2_with fail
  refine (get_any r s u _ _ (unhide H) hs (by omega) (by rw [show Int.toNat 8 = 8 from rfl]; omega)).mono ?_
  rintro e w1 ⟨rfl, h1, h2⟩
  rw [show Int.toNat 8 = 8 from rfl] at *
  have H1 := hide h1
  have HG1 := hide ((World.grownBy_alloc w _ (some r)).trans h2)
  have k0 : w1.cell? ⟨w.heap.size, 0, none⟩ = some (.bool false) := h2.cell (by rw [World.cell?_alloc_at _ _ _ _ rfl]; rfl) (by simp; omega)
  have k1 : w1.cell? ⟨w.heap.size, 1, none⟩ = some (.int .i64 0) := h2.cell (by rw [World.cell?_alloc_at _ _ _ _ rfl]; rfl) (by simp; omega)
  have k2 : w1.cell? ⟨w.heap.size, 2, none⟩ = some (.string ByteArray.empty) := h2.cell (by rw [World.cell?_alloc_at _ _ _ _ rfl]; rfl) (by simp; omega)
  have hbl : w1.heap[w.heap.size]? = (w.alloc (.cells #[.bool false, .int .i64 0, .string ByteArray.empty] 37)).heap[w.heap.size]? := h2.block _ (by simp) (by simp; omega)
  have f0 : w1.frozen? ⟨w.heap.size, 0, none⟩ = false := (World.frozen?_of_block (a := ⟨w.heap.size, 0, none⟩) hbl).trans (World.frozen?_alloc_at _ _ _ _ rfl)
  have f1 : w1.frozen? ⟨w.heap.size, 1, none⟩ = false := (World.frozen?_of_block (a := ⟨w.heap.size, 1, none⟩) hbl).trans (World.frozen?_alloc_at _ _ _ _ rfl)
  have f2 : w1.frozen? ⟨w.heap.size, 2, none⟩ = false := (World.frozen?_of_block (a := ⟨w.heap.size, 2, none⟩) hbl).trans (World.frozen?_alloc_at _ _ _ _ rfl)
  have hE := show decCell s k u = (if rd s u 8 = 0 then (⟨true, 0, ByteArray.empty⟩, u + 8) else if k = 1 then (⟨false, 0, ⟨(rdStr s (u + 8) 8 (rd s u 8 - 1)).toArray⟩⟩, u + 8 + (rd s u 8 - 1) * 8) else (⟨false, unfoldN (rd s (u + 8) (rd s u 8 - 1)), ByteArray.empty⟩, u + 8 + (rd s u 8 - 1))) from rfl
  generalize rd s u 8 = z at *
  by_cases hz : z = 0
  · subst hz
    rw [if_pos rfl] at hE
    have HE := hide hE
    clear h1 h2 hE hbl
    have HRD := H1
    have HGR := HG1
    go_wp2
    refine bodyPost_ret (v := .agg #[.bool (decCell s k u).1.null, .int .i64 (decCell s k u).1.n, .string (decCell s k u).1.s]) ?_ rfl ⟨rfl, ?_, ?_⟩
    · rw [unhide HE]
      simp [results, Try.results48, go_sem, k0, k1, k2]
      rfl
    · rw [unhide HE]
      exact ((unhide HRD).of_block (by rw [Below.heap_setCell _ _ _ _ (by show r ≠ w.heap.size; omega), Below.heap_setCell _ _ _ _ (by show r ≠ w.heap.size; omega), Below.heap_setCell _ _ _ _ (by show r ≠ w.heap.size; omega)]))
    · exact grownBy_setNew (grownBy_setNew (grownBy_setNew (unhide HGR) (Nat.le_refl _) _) (Nat.le_refl _) _) (Nat.le_refl _) _
  · have hz' : ((z : Int) == 0) = false := by rw [beq_eq_false_iff_ne]; omega
    rw [if_neg hz] at hE
    by_cases hk : k = 1
    · subst hk
      rw [if_pos rfl] at hE
      have HE := hide hE
      clear h1 h2 hE hbl
      go_wp2_with fail
      refine (getString_any r s (u + 8) _ _ w1 (unhide H1) hs (by omega) (by omega) (by omega) (by omega) (by omega)).mono ?_
      rintro e w2 ⟨rfl, h1, h2⟩
      have hb2 : w2.heap[w.heap.size]? = w1.heap[w.heap.size]? := h2.block _ (World.block_lt_of_cell? _ _ k0) (by simp; omega)
      have j0 := (World.cell?_of_block (a := ⟨w.heap.size, 0, none⟩) hb2).trans k0
      have j1 := (World.cell?_of_block (a := ⟨w.heap.size, 1, none⟩) hb2).trans k1
      have j2 := (World.cell?_of_block (a := ⟨w.heap.size, 2, none⟩) hb2).trans k2
      have g0 := (World.frozen?_of_block (a := ⟨w.heap.size, 0, none⟩) hb2).trans f0
      have g1 := (World.frozen?_of_block (a := ⟨w.heap.size, 1, none⟩) hb2).trans f1
      have g2 := (World.frozen?_of_block (a := ⟨w.heap.size, 2, none⟩) hb2).trans f2
      rw [show Int.toNat 8 = 8 from rfl, show ((z : Int) - 1).toNat = z - 1 by omega] at *
      have HRD := hide h1
      have HGR := hide ((unhide HG1).trans h2)
      clear h1 h2 hb2 k0 k1 k2 f0 f1 f2
      go_wp2
      refine bodyPost_ret (v := .agg #[.bool (decCell s 1 u).1.null, .int .i64 (decCell s 1 u).1.n, .string (decCell s 1 u).1.s]) ?_ rfl ⟨rfl, ?_, ?_⟩
      · rw [unhide HE]
        simp [results, Try.results48, go_sem, j0, j1, j2]
      · rw [unhide HE]
        exact ((unhide HRD).of_block (by rw [Below.heap_setCell _ _ _ _ (by show r ≠ w.heap.size; omega), Below.heap_setCell _ _ _ _ (by show r ≠ w.heap.size; omega), Below.heap_setCell _ _ _ _ (by show r ≠ w.heap.size; omega)]))
      · exact grownBy_setNew (grownBy_setNew (grownBy_setNew (unhide HGR) (Nat.le_refl _) _) (Nat.le_refl _) _) (Nat.le_refl _) _
    · have hk' : (k == 1) = false := by rw [beq_eq_false_iff_ne]; exact hk
      rw [if_neg hk] at hE
      have HE := hide hE
      clear h1 h2 hE hbl hk
      go_wp2_with fail
      refine (get_any r s (u + 8) _ w1 (unhide H1) hs (by omega) (by omega)).mono ?_
      rintro e w2 ⟨rfl, h1, h2⟩
      have hb2 : w2.heap[w.heap.size]? = w1.heap[w.heap.size]? := h2.block _ (World.block_lt_of_cell? _ _ k0) (by simp; omega)
      have j0 := (World.cell?_of_block (a := ⟨w.heap.size, 0, none⟩) hb2).trans k0
      have j1 := (World.cell?_of_block (a := ⟨w.heap.size, 1, none⟩) hb2).trans k1
      have j2 := (World.cell?_of_block (a := ⟨w.heap.size, 2, none⟩) hb2).trans k2
      have g0 := (World.frozen?_of_block (a := ⟨w.heap.size, 0, none⟩) hb2).trans f0
      have g1 := (World.frozen?_of_block (a := ⟨w.heap.size, 1, none⟩) hb2).trans f1
      have g2 := (World.frozen?_of_block (a := ⟨w.heap.size, 2, none⟩) hb2).trans f2
      rw [show ((z : Int) - 1).toNat = z - 1 by omega] at *
      have HRD := hide h1
      have HGR := hide ((unhide HG1).trans h2)
      clear h1 h2 hb2 k0 k1 k2 f0 f1 f2
      have hfl := rd_lt s (u + 8) (z - 1)
      generalize rd s (u + 8) (z - 1) = f at *
      go_wp2_with fail
      refine (unfold_any f w2 (by simpa using hfl)).mono ?_
      rintro e w3 ⟨rfl, rfl⟩
      go_wp2
      refine bodyPost_ret (v := .agg #[.bool (decCell s k u).1.null, .int .i64 (decCell s k u).1.n, .string (decCell s k u).1.s]) ?_ rfl ⟨rfl, ?_, ?_⟩
      · rw [unhide HE]
        simp [results, Try.results48, go_sem, j0, j1, j2]
        rfl
      · rw [unhide HE]
        exact ((unhide HRD).of_block (by rw [Below.heap_setCell _ _ _ _ (by show r ≠ w.heap.size; omega), Below.heap_setCell _ _ _ _ (by show r ≠ w.heap.size; omega), Below.heap_setCell _ _ _ _ (by show r ≠ w.heap.size; omega)]))
      · exact grownBy_setNew (grownBy_setNew (grownBy_setNew (unhide HGR) (Nat.le_refl _) _) (Nat.le_refl _) _) (Nat.le_refl _) _

end Go.Proofs.Ytgoihalolhmmdaa
