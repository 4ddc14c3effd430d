import Derived.Test.YtgoihalolhmmdaaRunsR
namespace Go.Proofs.Ytgoihalolhmmdaa
open Go.RowKit

/-- The cell at a place of the dictionary. -/
def atPlace (es : List Cl) (q : Nat) : Cl := es.getD q zeroCl
def decPlaces (s : ByteArray) (es : List Cl) (wd u : Nat) : Nat → List Cl
  | 0 => []
  | n + 1 => decPlaces s es wd u n ++ [atPlace es (rd s (u + n * wd) wd)]
theorem decPlaces_length (s : ByteArray) (es : List Cl) (wd u n : Nat) : (decPlaces s es wd u n).length = n := by
  induction n with
  | zero => rfl
  | succ n ih => simp [decPlaces, ih]
def decDict (s : ByteArray) (k : Int) (u n : Nat) : List Cl :=
  decPlaces s (decN s k (u + 8) (rd s u 8)).1 (pw (rd s u 8)) (decN s k (u + 8) (rd s u 8)).2 n

theorem keep_zero (A : List Cl) (m : Nat) (d : Cl) : A ++ List.replicate (m + 1) d = (A ++ [d]) ++ List.replicate m d := by
  rw [List.append_assoc]; rfl

set_option maxHeartbeats 1600000 in
set_option maxRecDepth 100000 in
theorem dictRead_any (r : Nat) (s : ByteArray) (u : Nat) (k : Int) (n : Nat) (w : World) (h : Rdr w r s u) (hs : s.size ≤ 140737488351232) (hn : n ≤ 255) (hb : u ≤ 1000000) :
    Calls Try.prog 57 #[.agg #[], .pointer (some ⟨r, 0, none⟩), .int .i64 k, .int .i64 (n : Int)] w fun e w' => ∃ v, e = .returned v ∧ w'.ownsRow w.heap.size 37 3 v n (cellsL (decDict s k u n)) ∧ w.grownBy w' (some r) := by
  obtain ⟨i0, hi, hz0, hz1, hz2⟩ := info_parts Try.info37
  have H := hide (h.alloc (.cells #[] 66))
  have hrl := h.lt
  clear h
  go_enter Try.func57, Try.ntmps57
  go_wp2_with fail
  refine (get_any r s u _ _ (unhide H) hs (by omega) (by rw [show Int.toNat 8 = 8 from rfl]; omega)).mono ?_
  rintro e w0 ⟨rfl, h4, h5⟩
  rw [show Int.toNat 8 = 8 from rfl] at *
  have hrd := rd_lt_pow s u 8
  have h28 : (2 : Nat) ^ 8 = 256 := by decide
  have HDD : Hid (decDict s k u n = decPlaces s (decN s k (u + 8) (rd s u 8)).1 (pw (rd s u 8)) (decN s k (u + 8) (rd s u 8)).2 n) := hide rfl
  generalize rd s u 8 = z at *
  have hz256 : z ≤ 255 := by omega
  have HR0 := hide h4
  have HG0 := hide ((World.grownBy_alloc w (.cells #[] 66) (some r)).trans h5)
  have hs0 : w.heap.size + 1 ≤ w0.heap.size := by have := h5.size; simpa using this
  clear h4 h5 hrd h28
  go_wp2_with (at_make; refine wpList_make_full _ rfl _ _ 22 rfl w.heap.size 37 i0 _ 3 Try.underlying22 hi hz0 hz1 _ _ _ _ z rfl rfl rfl rfl (by rw [hz2]; omega) (by unfold maxLen; omega) (by omega) ?_; intro w1 hown hgrow)
  rw [made_cells] at hown
  have HOWN := hide hown
  have HG := hide ((unhide HG0).trans (hgrow.but (some r)))
  have HR := hide ((unhide HR0).kept hgrow (by simp))
  clear hown hgrow
  go_wp2
  go_loopw [20] (fun c wr => ∃ i : Nat, i ≤ z ∧ c = .int .i64 i ∧ Hid (wr.ownsRow w.heap.size 37 3 (.slice (some ⟨w0.heap.size, 0, none⟩) z z) z (cellsL ((decN s k (u + 8) i).1 ++ List.replicate (z - i) zeroCl))) ∧ Hid (Rdr wr r s (decN s k (u + 8) i).2) ∧ Hid (w.grownBy wr (some r))) (fun c _ => z - (intOf c).toNat)
  case atStart => exact ⟨0, Nat.zero_le _, rfl, hide (by simpa [decN] using unhide HOWN), hide (by simpa [decN] using unhide HR), HG⟩
  case round =>
    obtain ⟨i, hi', rfl, HO, HRK, HGK⟩ := hrel
    by_cases hlt : i < z
    · have hlt' : (i : Int) < (z : Int) := by omega
      have hple := decN_le s k (u + 8) i
      have hil : i * 2048 ≤ 255 * 2048 := Nat.mul_le_mul_right _ (by omega)
      go_wp2_with fail
      refine (getCell_any r s _ k wr (unhide HRK) hs (by omega)).mono ?_
      rintro e w2 ⟨rfl, h4, h5⟩
      have ho2 := (unhide HO).kept h5 (by simp [Value.ownBlock]; omega)
      have hdl := decN_length s k (u + 8) i
      rw [show z - i = (z - (i + 1)) + 1 by omega] at ho2
      obtain ⟨⟨c0, c1, c2⟩, f0, f1, f2⟩ := row_cells ho2 hdl
      have hst := stored_cell (c := (decCell s k (decN s k (u + 8) i).2).1) ho2
      rw [hdl] at hst
      have hsn : (decN s k (u + 8) (i + 1)).1 = (decN s k (u + 8) i).1 ++ [(decCell s k (decN s k (u + 8) i).2).1] := rfl
      rw [← hsn] at hst
      have HSN : Hid ((decN s k (u + 8) (i + 1)).2 = (decCell s k (decN s k (u + 8) i).2).2) := hide rfl
      have H4 := hide h4
      have H5 := hide ((unhide HGK).trans h5)
      generalize (decCell s k (decN s k (u + 8) i).2).1 = c at *
      have HST := hide hst
      clear h4 h5 ho2 hdl hsn hst hple hil
      go_wp2_with fail
      go_roundw
      case rel =>
        refine ⟨i + 1, by omega, by go_num, HST, hide ?_, hide ?_⟩
        · rw [unhide HSN]
          exact (unhide H4).of_block (by rw [Below.heap_setCell _ _ _ _ (by show r ≠ w0.heap.size; omega), Below.heap_setCell _ _ _ _ (by show r ≠ w0.heap.size; omega), Below.heap_setCell _ _ _ _ (by show r ≠ w0.heap.size; omega)])
        · exact grownBy_setNew (grownBy_setNew (grownBy_setNew (unhide H5) (by show w.heap.size ≤ w0.heap.size; omega) _) (by show w.heap.size ≤ w0.heap.size; omega) _) (by show w.heap.size ≤ w0.heap.size; omega) _
      case measure => simp [intOf]; omega
    · rename World => wa
      obtain rfl : i = z := by omega
      have ho := unhide HO
      rw [Nat.sub_self, List.replicate_zero, List.append_nil] at ho
      have hel := decN_length s k (u + 8) i
      have hep := decN_le s k (u + 8) i
      have hil : i * 2048 ≤ 255 * 2048 := Nat.mul_le_mul_right _ (by omega)
      generalize hES : (decN s k (u + 8) i).1 = es at *
      generalize hP : (decN s k (u + 8) i).2 = p at *
      have hpb : p ≤ 2000000 := by omega
      have HOE := hide ho
      have HEL := hide hel
      have hs1 : w0.heap.size < wa.heap.size := (ho.lt w0.heap.size rfl).2
      clear ho hel hep hil hES hP HO
      go_wp2_with fail
      refine (placeWidth_any i _ (by omega)).mono ?_
      rintro e w3 ⟨rfl, rfl⟩
      have hpw := pw_le i (by omega)
      generalize pw i = wd at *
      go_wp2_with (at_make; refine wpList_make_full _ rfl _ _ 22 rfl w.heap.size 37 i0 _ 3 Try.underlying22 hi hz0 hz1 _ _ _ _ n rfl rfl rfl rfl (by rw [hz2]; omega) (by unfold maxLen; omega) (by omega) ?_; intro w4 hown hgrow)
      rw [made_cells] at hown
      have HC := hide hown
      have HE4 := hide ((unhide HOE).kept hgrow (by simp [Value.ownBlock]))
      have HG4 := hide ((unhide HGK).trans (hgrow.but (some r)))
      have HR4 := hide ((unhide HRK).kept hgrow (by simp))
      clear hown hgrow
      go_wp2
      go_loopw [37] (fun c wr => ∃ j : Nat, j ≤ n ∧ c = .int .i64 j ∧ Hid (wr.ownsRow w.heap.size 37 3 (.slice (some ⟨w0.heap.size, 0, none⟩) i i) i (cellsL es)) ∧ Hid (wr.ownsRow w.heap.size 37 3 (.slice (some ⟨wa.heap.size, 0, none⟩) n n) n (cellsL (decPlaces s es wd p j ++ List.replicate (n - j) zeroCl))) ∧ Hid (Rdr wr r s (p + j * wd)) ∧ Hid (w.grownBy wr (some r))) (fun c _ => n - (intOf c).toNat)
      case atStart => exact ⟨0, Nat.zero_le _, rfl, HE4, hide (by simpa [decPlaces] using unhide HC), hide (by simpa using unhide HR4), HG4⟩
      case round =>
        obtain ⟨j, hj, rfl, HEJ, HCJ, HRJ, HGJ⟩ := hrel
        by_cases hjl : j < n
        · have hjl' : (j : Int) < (n : Int) := by omega
          have hjw : j * wd ≤ 255 * 8 := Nat.mul_le_mul (by omega) (by omega)
          go_wp2_with fail
          refine (get_any r s _ _ wr (unhide HRJ) hs (by omega) (by rw [Int.toNat_natCast]; omega)).mono ?_
          rintro e w5 ⟨rfl, h4, h5⟩
          rw [Int.toNat_natCast] at *
          have hrl5 := rd_lt_pow s (p + j * wd) wd
          have hw8 : 2 ^ wd ≤ 2 ^ 8 := Nat.pow_le_pow_right (by omega) hpw
          have h28 : (2 : Nat) ^ 8 = 256 := by decide
          have HPL : Hid (decPlaces s es wd p (j + 1) = decPlaces s es wd p j ++ [atPlace es (rd s (p + j * wd) wd)]) := hide rfl
          generalize rd s (p + j * wd) wd = q at *
          have hq : q < 256 := by omega
          clear hrl5 hw8 h28
          have he5 := (unhide HEJ).kept h5 (by simp [Value.ownBlock]; omega)
          have hc5 := (unhide HCJ).kept h5 (by simp [Value.ownBlock]; omega)
          rw [show n - j = (n - (j + 1)) + 1 by omega] at hc5
          have hdl := decPlaces_length s es wd p j
          have HR5 : Hid (Rdr w5 r s (p + (j + 1) * wd)) := hide (by rw [Nat.succ_mul, ← Nat.add_assoc]; exact h4)
          have HG5 := hide ((unhide HGJ).trans h5)
          have HE5 := hide he5
          have hs5 : wa.heap.size < w5.heap.size := (hc5.lt wa.heap.size rfl).2
          by_cases hqi : q < i
          · have hqi' : (q : Int) < (i : Int) := by omega
            obtain ⟨⟨c0, c1, c2⟩, f0, f1, f2⟩ := row_cells hc5 hdl
            obtain ⟨c, hcq⟩ : ∃ c, es[q]? = some c := ⟨es[q]'(by rw [unhide HEL]; exact hqi), List.getElem?_eq_getElem _⟩
            obtain ⟨d0, d1, d2⟩ := colAt_own he5 q c hcq
            rw [Nat.zero_add] at d0 d1 d2
            have hst := stored_cell (c := c) hc5
            rw [hdl] at hst
            have HST := hide hst
            have HAT : Hid (atPlace es q = c) := hide (by simp [atPlace, hcq])
            clear h4 h5 he5 hc5 hdl hst hcq
            go_wp2_with fail
            go_roundw
            case rel =>
              refine ⟨j + 1, by omega, by go_num, hide ?_, hide ?_, hide ?_, hide ?_⟩
              · exact (((unhide HE5).kept (grownBy_setCell _ ⟨wa.heap.size, _, none⟩ _) (by simp [Value.ownBlock]; omega)).kept (grownBy_setCell _ ⟨wa.heap.size, _, none⟩ _) (by simp [Value.ownBlock]; omega)).kept (grownBy_setCell _ ⟨wa.heap.size, _, none⟩ _) (by simp [Value.ownBlock]; omega)
              · rw [unhide HPL, unhide HAT]; exact unhide HST
              · exact (unhide HR5).of_block (by rw [Below.heap_setCell _ _ _ _ (by show r ≠ wa.heap.size; omega), Below.heap_setCell _ _ _ _ (by show r ≠ wa.heap.size; omega), Below.heap_setCell _ _ _ _ (by show r ≠ wa.heap.size; omega)])
              · exact grownBy_setNew (grownBy_setNew (grownBy_setNew (unhide HG5) (by show w.heap.size ≤ wa.heap.size; omega) _) (by show w.heap.size ≤ wa.heap.size; omega) _) (by show w.heap.size ≤ wa.heap.size; omega) _
            case measure => simp [intOf]; omega
          · have hqi' : (i : Int) ≤ (q : Int) := by omega
            have HAT : Hid (atPlace es q = zeroCl) := hide (by rw [atPlace, List.getD, List.getElem?_eq_none (by rw [unhide HEL]; omega)]; rfl)
            have HC5 := hide hc5
            clear h4 h5 he5 hc5 hdl
            go_wp2_with fail
            go_roundw
            case rel =>
              refine ⟨j + 1, by omega, by go_num, HE5, hide ?_, HR5, HG5⟩
              rw [unhide HPL, unhide HAT, ← keep_zero]
              exact unhide HC5
            case measure => simp [intOf]; omega
        · obtain rfl : j = n := by omega
          have ho := unhide HCJ
          rw [Nat.sub_self, List.replicate_zero, List.append_nil] at ho
          have HO' := hide ho
          clear ho
          go_wp2
          go_ret
          exact ⟨_, rfl, by rw [unhide HDD]; exact unhide HO', unhide HGJ⟩

end Go.Proofs.Ytgoihalolhmmdaa
