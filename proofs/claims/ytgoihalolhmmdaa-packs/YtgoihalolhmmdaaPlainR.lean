import Derived.Test.YtgoihalolhmmdaaReads
namespace Go.Proofs.Ytgoihalolhmmdaa
open Go.RowKit

theorem decCell_le (s : ByteArray) (k : Int) (u : Nat) : (decCell s k u).2 ≤ u + 2048 := by
  have h := rd_lt_pow s u 8
  have h2 : (2 : Nat) ^ 8 = 256 := by decide
  unfold decCell
  split
  · simp
  · split
    · show u + 8 + (rd s u 8 - 1) * 8 ≤ _; omega
    · show u + 8 + (rd s u 8 - 1) ≤ _; omega

/-- n cells, one behind another. -/
def decN (s : ByteArray) (k : Int) (u : Nat) : Nat → List Cl × Nat
  | 0 => ([], u)
  | n + 1 => ((decN s k u n).1 ++ [(decCell s k (decN s k u n).2).1], (decCell s k (decN s k u n).2).2)
theorem decN_length (s : ByteArray) (k : Int) (u n : Nat) : (decN s k u n).1.length = n := by
  induction n with
  | zero => rfl
  | succ n ih => simp [decN, ih]
theorem decN_le (s : ByteArray) (k : Int) (u n : Nat) : (decN s k u n).2 ≤ u + n * 2048 := by
  induction n with
  | zero => simp [decN]
  | succ n ih => have := decCell_le s k (decN s k u n).2; simp only [decN]; omega

def zeroCl : Cl := ⟨false, 0, ByteArray.empty⟩

theorem made_cells (n : Nat) : (madeCells (Value.agg #[.bool false, .int .i64 0, .string ByteArray.empty]).cells (n * 3)).toList = cellsL (List.replicate n zeroCl) := by
  apply List.ext_getElem?
  intro j
  have hz : (Value.agg #[.bool false, .int .i64 0, .string ByteArray.empty]).cells = #[.bool false, .int .i64 0, .string ByteArray.empty] := rfl
  by_cases hj : j < n * 3
  · have hc : (List.replicate n zeroCl)[j / 3]? = some zeroCl := by
      rw [List.getElem?_replicate, if_pos (by omega)]
    obtain ⟨h0, h1, h2⟩ := cellsL_get hc
    have hm : (madeCells #[.bool false, .int .i64 0, .string ByteArray.empty] (n * 3)).toList[j]? = some (#[Value.bool false, .int .i64 0, .string ByteArray.empty][j % 3]!) := by
      simp [madeCells, hj]
    rw [hz, hm]
    have h3 : j % 3 = 0 ∨ j % 3 = 1 ∨ j % 3 = 2 := by omega
    rcases h3 with h3 | h3 | h3
    · rw [show j / 3 * 3 = j by omega] at h0; rw [h0, h3]; rfl
    · rw [show j / 3 * 3 + 1 = j by omega] at h1; rw [h1, h3]; rfl
    · rw [show j / 3 * 3 + 2 = j by omega] at h2; rw [h2, h3]; rfl
  · rw [List.getElem?_eq_none (by rw [Array.length_toList, size_madeCells]; omega), List.getElem?_eq_none (by rw [cellsL_len, List.length_replicate]; omega)]

theorem cellsL_append (a b : List Cl) : cellsL (a ++ b) = cellsL a ++ cellsL b := by simp [cellsL, List.flatMap_append]
theorem set_cells (A : List Cl) (m : Nat) (d c : Cl) : (((cellsL (A ++ List.replicate (m + 1) d)).set (A.length * 3) (.bool c.null)).set (A.length * 3 + 1) (.int .i64 c.n)).set (A.length * 3 + 2) (.string c.s) = cellsL ((A ++ [c]) ++ List.replicate m d) := by
  have e1 : cellsL (A ++ List.replicate (m + 1) d) = cellsL A ++ ([.bool d.null, .int .i64 d.n, .string d.s] ++ cellsL (List.replicate m d)) := by
    rw [cellsL_append, List.replicate_succ]; rfl
  have e2 : cellsL ((A ++ [c]) ++ List.replicate m d) = cellsL A ++ ([.bool c.null, .int .i64 c.n, .string c.s] ++ cellsL (List.replicate m d)) := by
    rw [List.append_assoc, cellsL_append]; rfl
  have hl := cellsL_len A
  rw [e1, e2, ← hl]
  rw [List.set_append_right _ _ (Nat.le_refl _), List.set_append_right _ _ (by omega), List.set_append_right _ _ (by omega)]
  congr 1
  rw [Nat.sub_self, show (cellsL A).length + 1 - (cellsL A).length = 1 by omega, show (cellsL A).length + 2 - (cellsL A).length = 2 by omega]
  rfl

/-- A store of a whole cell into the row. -/
theorem stored_cell {w : World} {base g n cap : Nat} {A : List Cl} {m : Nat} {d c : Cl} (h : w.ownsRow base 37 3 (.slice (some ⟨g, 0, none⟩) n cap) n (cellsL (A ++ List.replicate (m + 1) d))) :
    (((w.setCell ⟨g, A.length * 3, none⟩ (.bool c.null)).setCell ⟨g, A.length * 3 + 1, none⟩ (.int .i64 c.n)).setCell ⟨g, A.length * 3 + 2, none⟩ (.string c.s)).ownsRow base 37 3 (.slice (some ⟨g, 0, none⟩) n cap) n (cellsL ((A ++ [c]) ++ List.replicate m d)) := by
  rw [← set_cells A m d c]
  exact (((h.stored _ _).1.stored _ _).1.stored _ _).1

theorem row_cells {w : World} {base g n cap i : Nat} {A : List Cl} {m : Nat} {d : Cl} (h : w.ownsRow base 37 3 (.slice (some ⟨g, 0, none⟩) n cap) n (cellsL (A ++ List.replicate (m + 1) d))) (hi : A.length = i) :
    (w.cell? ⟨g, i * 3, none⟩ = some (.bool d.null) ∧ w.cell? ⟨g, i * 3 + 1, none⟩ = some (.int .i64 d.n) ∧ w.cell? ⟨g, i * 3 + 2, none⟩ = some (.string d.s)) ∧ w.frozen? ⟨g, i * 3, none⟩ = false ∧ w.frozen? ⟨g, i * 3 + 1, none⟩ = false ∧ w.frozen? ⟨g, i * 3 + 2, none⟩ = false := by
  have hc : (A ++ List.replicate (m + 1) d)[i]? = some d := by rw [List.getElem?_append_right (by omega), hi, Nat.sub_self]; rfl
  have := colAt_own h i d hc
  rw [Nat.zero_add] at this
  exact ⟨this, h.frozenAt _, h.frozenAt _, h.frozenAt _⟩

set_option maxHeartbeats 800000 in
set_option maxRecDepth 100000 in
theorem plainRead_any (r : Nat) (s : ByteArray) (u : Nat) (k : Int) (n : Nat) (w : World) (h : Rdr w r s u) (hs : s.size ≤ 140737488351232) (hn : n ≤ 255) (hb : u ≤ 1000000) :
    Calls Try.prog 66 #[.agg #[], .pointer (some ⟨r, 0, none⟩), .int .i64 k, .int .i64 (n : Int)] w fun e w' => ∃ v, e = .returned v ∧ w'.ownsRow w.heap.size 37 3 v n (cellsL (decN s k u n).1) ∧ w.grownBy w' (some r) := by
  obtain ⟨i0, hi, hz0, hz1, hz2⟩ := info_parts Try.info37
  have H := hide (h.alloc (.cells #[] 68))
  have hrl := h.lt
  clear h
  go_enter Try.func66, Try.ntmps66
  go_wp2_with (at_make; refine wpList_make_full _ rfl _ _ 22 rfl w.heap.size 37 i0 _ 3 Try.underlying22 hi hz0 hz1 _ _ _ _ n rfl rfl rfl rfl (by rw [hz2]; omega) (by unfold maxLen; omega) (by simp) ?_; intro w1 hown hgrow)
  rw [made_cells] at hown
  have hr1 := (unhide H).kept hgrow (by simp)
  have HOWN := hide hown
  have HG := hide ((World.grownBy_alloc w (.cells #[] 68) (some r)).trans (hgrow.but (some r)))
  have HR := hide hr1
  clear hown hgrow hr1
  go_wp2
  go_loopw [15] (fun c wr => ∃ i : Nat, i ≤ n ∧ c = .int .i64 i ∧ Hid (wr.ownsRow w.heap.size 37 3 (.slice (some ⟨w.heap.size + 1, 0, none⟩) n n) n (cellsL ((decN s k u i).1 ++ List.replicate (n - i) zeroCl))) ∧ Hid (Rdr wr r s (decN s k u i).2) ∧ Hid (w.grownBy wr (some r))) (fun c _ => n - (intOf c).toNat)
  case atStart => exact ⟨0, Nat.zero_le _, rfl, hide (by simpa [decN] using unhide HOWN), hide (by simpa [decN] using unhide HR), HG⟩
  case round =>
    obtain ⟨i, hi', rfl, HO, HRK, HGK⟩ := hrel
    by_cases hlt : i < n
    · have hlt' : (i : Int) < (n : Int) := by omega
      have hple := decN_le s k u i
      have hil : i * 2048 ≤ 255 * 2048 := Nat.mul_le_mul_right _ (by omega)
      go_wp2_with fail
      refine (getCell_any r s _ k wr (unhide HRK) hs (by omega)).mono ?_
      rintro e w2 ⟨rfl, h4, h5⟩
      have ho2 := (unhide HO).kept h5 (by simp [Value.ownBlock]; omega)
      have hdl := decN_length s k u i
      rw [show n - i = (n - (i + 1)) + 1 by omega] at ho2
      obtain ⟨⟨c0, c1, c2⟩, f0, f1, f2⟩ := row_cells ho2 hdl
      have hst := stored_cell (c := (decCell s k (decN s k u i).2).1) ho2
      rw [hdl] at hst
      have hsn : (decN s k u (i + 1)).1 = (decN s k u i).1 ++ [(decCell s k (decN s k u i).2).1] := rfl
      rw [← hsn] at hst
      have HSN : Hid ((decN s k u (i + 1)).2 = (decCell s k (decN s k u i).2).2) := hide rfl
      have H4 := hide h4
      have H5 := hide ((unhide HGK).trans h5)
      generalize (decCell s k (decN s k u i).2).1 = c at *
      have HST := hide hst
      clear h4 h5 ho2 hdl hsn hst hple hil
      go_wp2_with fail
      go_roundw
      case rel =>
        refine ⟨i + 1, by omega, by go_num, HST, hide ?_, hide ?_⟩
        · rw [unhide HSN]
          exact (unhide H4).of_block (by rw [Below.heap_setCell _ _ _ _ (by show r ≠ w.heap.size + 1; omega), Below.heap_setCell _ _ _ _ (by show r ≠ w.heap.size + 1; omega), Below.heap_setCell _ _ _ _ (by show r ≠ w.heap.size + 1; omega)])
        · exact grownBy_setNew (grownBy_setNew (grownBy_setNew (unhide H5) (Nat.le_succ _) _) (Nat.le_succ _) _) (Nat.le_succ _) _
      case measure => simp [intOf]; omega
    · obtain rfl : i = n := by omega
      have ho := unhide HO
      rw [Nat.sub_self, List.replicate_zero, List.append_nil] at ho
      have HO' := hide ho
      clear ho
      go_wp2
      go_ret
      exact ⟨_, rfl, unhide HO', unhide HGK⟩

end Go.Proofs.Ytgoihalolhmmdaa
