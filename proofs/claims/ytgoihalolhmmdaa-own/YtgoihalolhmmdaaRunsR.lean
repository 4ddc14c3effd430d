import Derived.Test.YtgoihalolhmmdaaPlainR
import Derived.Maps.Range
namespace Go.Proofs.Ytgoihalolhmmdaa
open Go.RowKit

def decRunsF (s : ByteArray) (k : Int) (n : Nat) : Nat → List Cl → Nat → List Cl
  | 0, l, _ => l
  | f + 1, l, u => if l.length < n then decRunsF s k n f (l ++ List.replicate (min (rd s u 8 + 1) (n - l.length)) (decCell s k (u + 8)).1) (decCell s k (u + 8)).2 else l
def decRuns (s : ByteArray) (k : Int) (u n : Nat) : List Cl := decRunsF s k n n [] u

theorem decRunsF_full (s : ByteArray) (k : Int) (n f : Nat) (l : List Cl) (u : Nat) (h : n ≤ l.length) : decRunsF s k n f l u = l := by
  cases f with
  | zero => rfl
  | succ f => rw [decRunsF, if_neg (by omega)]
theorem decRunsF_length (s : ByteArray) (k : Int) (n : Nat) : ∀ (f : Nat) (l : List Cl) (u : Nat), l.length ≤ n → n - l.length ≤ f → (decRunsF s k n f l u).length = n := by
  intro f
  induction f with
  | zero => intro l u h1 h2; rw [decRunsF]; omega
  | succ f ih =>
    intro l u h1 h2
    rw [decRunsF]
    split
    · apply ih
      · rw [List.length_append, List.length_replicate]; omega
      · rw [List.length_append, List.length_replicate]; omega
    · omega

set_option maxHeartbeats 800000 in
set_option maxRecDepth 100000 in
theorem runsRead_any (r : Nat) (s : ByteArray) (u : Nat) (k : Int) (n : Nat) (w : World) (h : Rdr w r s u) (hs : s.size ≤ 140737488351232) (hn : n ≤ 255) (hb : u ≤ 1000000) :
    Calls Try.prog 46 #[.agg #[], .pointer (some ⟨r, 0, none⟩), .int .i64 k, .int .i64 (n : Int)] w fun e w' => ∃ v, e = .returned v ∧ w'.ownsRow w.heap.size 37 3 v n (cellsL (decRuns s k u n)) ∧ w.grownBy w' (some r) := by
  obtain ⟨i0, hi, hz0, hz1, hz2⟩ := info_parts Try.info37
  have H := hide (h.alloc (.cells #[] 65))
  have hrl := h.lt
  clear h
  go_enter Try.func46, Try.ntmps46
  go_wp2_with (at_make; refine wpList_make_own _ rfl _ _ 22 rfl w.heap.size 37 i0 _ 3 Try.underlying22 hi hz0 hz1 _ _ _ n rfl rfl rfl (by rw [hz2]; omega) (by unfold maxLen; omega) (by simp) ?_; intro w1 hown hgrow)
  have hr1 := (unhide H).kept hgrow (by simp)
  have HOWN := hide hown
  have HG := hide ((World.grownBy_alloc w (.cells #[] 65) (some r)).trans (hgrow.but (some r)))
  have HR := hide hr1
  clear hown hgrow hr1
  go_wp2
  go_loopw [9] (fun v wr => ∃ (L f u' : Nat) (l : List Cl), Hid (l.length = L) ∧ L ≤ n ∧ n - L ≤ f ∧ u' ≤ u + L * 2060 ∧ v = .slice (some ⟨w.heap.size + 1, 0, none⟩) L n ∧ Hid (decRunsF s k n f l u' = decRuns s k u n) ∧ Hid (wr.ownsRow w.heap.size 37 3 (.slice (some ⟨w.heap.size + 1, 0, none⟩) L n) L (cellsL l)) ∧ Hid (Rdr wr r s u') ∧ Hid (w.grownBy wr (some r))) (fun v _ => n - lenOf v)
  case atStart => exact ⟨0, n, u, [], hide rfl, Nat.zero_le _, by omega, by omega, rfl, hide rfl, hide (by simpa [cellsL] using unhide HOWN), HR, HG⟩
  case round =>
    obtain ⟨L, f, u', l, HL, hLn, hf, hu, rfl, HD, HO, HRK, HGK⟩ := hrel
    by_cases hlt : L < n
    · have hlt' : (L : Int) < (n : Int) := by omega
      have hu2 : L * 2060 ≤ 255 * 2060 := Nat.mul_le_mul_right _ (by omega)
      obtain ⟨f, rfl⟩ : ∃ f', f = f' + 1 := ⟨f - 1, by omega⟩
      go_wp2_with fail
      refine (get_any r s u' _ wr (unhide HRK) hs (by omega) (by rw [show Int.toNat 8 = 8 from rfl]; omega)).mono ?_
      rintro e w2 ⟨rfl, h4, h5⟩
      rw [show Int.toNat 8 = 8 from rfl] at *
      have hrd := rd_lt_pow s u' 8
      have h28 : (2 : Nat) ^ 8 = 256 := by decide
      have HRD : Hid (decRunsF s k n (f + 1) l u' = if l.length < n then decRunsF s k n f (l ++ List.replicate (min (rd s u' 8 + 1) (n - l.length)) (decCell s k (u' + 8)).1) (decCell s k (u' + 8)).2 else l) := hide rfl
      generalize rd s u' 8 = z at *
      have H4 := hide h4
      have ho2 := (unhide HO).kept h5 (by simp [Value.ownBlock]; omega)
      have HO2 := hide ho2
      have HG2 := hide ((unhide HGK).trans h5)
      clear h4 h5 ho2
      have hz256 : z < 256 := by omega
      clear hrd h28
      go_wp2_with fail
      refine (getCell_any r s (u' + 8) k w2 (unhide H4) hs (by omega)).mono ?_
      rintro e w3 ⟨rfl, h4, h5⟩
      have hcl := decCell_le s k (u' + 8)
      have HUP := hide h4
      have ho3 := (unhide HO2).kept h5 (by simp [Value.ownBlock]; omega)
      have HO3 := hide ho3
      have HG3 := hide ((unhide HG2).trans h5)
      have hs3 : w.heap.size + 1 < w3.heap.size := (ho3.lt (w.heap.size + 1) rfl).2
      clear h4 h5 ho3
      generalize hC : (decCell s k (u' + 8)).1 = c at *
      generalize hU : (decCell s k (u' + 8)).2 = u2 at *
      have HC := hide hC
      clear hC hU
      -- the box of the cell
      have q0 : (w3.alloc (.cells #[.bool c.null, .int .i64 c.n, .string c.s] 37)).cell? ⟨w3.heap.size, 0, none⟩ = some (.bool c.null) := by rw [World.cell?_alloc_at _ _ _ _ rfl]; rfl
      have q1 : (w3.alloc (.cells #[.bool c.null, .int .i64 c.n, .string c.s] 37)).cell? ⟨w3.heap.size, 1, none⟩ = some (.int .i64 c.n) := by rw [World.cell?_alloc_at _ _ _ _ rfl]; rfl
      have q2 : (w3.alloc (.cells #[.bool c.null, .int .i64 c.n, .string c.s] 37)).cell? ⟨w3.heap.size, 2, none⟩ = some (.string c.s) := by rw [World.cell?_alloc_at _ _ _ _ rfl]; rfl
      have HQ := hide (And.intro q0 (And.intro q1 q2))
      have HRB := hide ((unhide HUP).alloc (.cells #[.bool c.null, .int .i64 c.n, .string c.s] 37))
      clear q0 q1 q2
      by_cases hzl : z + 1 ≤ n - L
      · have hzl' : (z : Int) + 1 ≤ (n : Int) - (L : Int) := by omega
        go_wp2_with fail
        go_loopw [9, 31] (fun v cv wr => ∃ j : Nat, j ≤ z + 1 ∧ cv = .int .i64 j ∧ v = .slice (some ⟨w.heap.size + 1, 0, none⟩) (L + j) n ∧ Hid (wr.ownsRow w.heap.size 37 3 (.slice (some ⟨w.heap.size + 1, 0, none⟩) (L + j) n) (L + j) (cellsL (l ++ List.replicate j c))) ∧ Hid (wr.cell? ⟨w3.heap.size, 0, none⟩ = some (.bool c.null) ∧ wr.cell? ⟨w3.heap.size, 1, none⟩ = some (.int .i64 c.n) ∧ wr.cell? ⟨w3.heap.size, 2, none⟩ = some (.string c.s)) ∧ Hid (Rdr wr r s u2) ∧ Hid (w.grownBy wr (some r))) (fun _ cv _ => z + 1 - (intOf cv).toNat)
        case atStart => exact ⟨0, Nat.zero_le _, rfl, rfl, hide (by simpa using (unhide HO3).alloc _), HQ, HRB, hide ((unhide HG3).trans (World.grownBy_alloc _ _ _))⟩
        case round =>
          obtain ⟨j, hj, rfl, rfl, HOJ, HQJ, HRJ, HGJ⟩ := hrel
          by_cases hjl : j < z + 1
          · have hjl' : (j : Int) < (z : Int) + 1 := by omega
            obtain ⟨q0, q1, q2⟩ := unhide HQJ
            have hbw : w3.heap.size < wr.heap.size := World.block_lt_of_cell? _ _ q0
            go_wp2_with (at_builtin; refine wpList_append_fits _ rfl _ _ 22 rfl w.heap.size 37 i0 3 Try.underlying22 hi hz1 (w.heap.size + 1) (L + j) n _ rfl ((unhide HOJ).alloc _) ⟨wr.heap.size, 0, none⟩ 1 1 [.bool c.null, .int .i64 c.n, .string c.s] rfl rfl ?c1 ?c2 (by omega) ?_)
            case c1 =>
              intro j u hj
              match j, hj with
              | 0, hj => simp at hj; subst hj; simp [Addr.add]
              | 1, hj => simp at hj; subst hj; simp [Addr.add]
              | 2, hj => simp at hj; subst hj; simp [Addr.add]
            case c2 => intro u hu; simp at hu; rcases hu with rfl | rfl | rfl <;> rfl
            intro w5 ho5 hg5
            have hall := (World.grownBy_alloc wr (.cells #[.bool c.null, .int .i64 c.n, .string c.s] 37) (some (w.heap.size + 1))).trans hg5
            have HO5 := hide ho5
            have HQ5 := hide (And.intro (hall.cell q0 (by simp; omega)) (And.intro (hall.cell q1 (by simp; omega)) (hall.cell q2 (by simp; omega))))
            have HR5 := hide ((unhide HRJ).kept hall (by simp; omega))
            have HG5 := hide ((unhide HGJ).andThen hall (fun g hg => by cases hg; omega))
            clear ho5 hg5 hall q0 q1 q2
            go_wp2
            go_roundw
            case rel =>
              refine ⟨j + 1, by omega, by go_num, rfl, hide ?_, HQ5, HR5, HG5⟩
              have ho := unhide HO5
              rw [← cellsL_snoc, List.append_assoc] at ho
              rw [show List.replicate (j + 1) c = List.replicate j c ++ [c] from List.replicate_succ']
              exact ho
            case measure => simp [intOf]; omega
          · obtain rfl : j = z + 1 := by omega
            go_wp2_with fail
            go_roundw
            case rel =>
              refine ⟨L + (z + 1), f, u2, l ++ List.replicate (z + 1) c, hide (by rw [List.length_append, List.length_replicate, unhide HL]), by omega, by omega, by rw [Nat.add_mul]; omega, rfl, hide ?_, HOJ, HRJ, HGJ⟩
              have hd := (unhide HRD).symm.trans (unhide HD)
              rw [if_pos (by rw [unhide HL]; exact hlt), unhide HL, Nat.min_eq_left hzl] at hd
              exact hd
            case measure => show n - (L + (z + 1)) < n - L; omega
      · have hzl' : (n : Int) - (L : Int) < (z : Int) + 1 := by omega
        go_wp2_with fail
        go_loopw [9, 31] (fun v cv wr => ∃ j : Nat, j ≤ n - L ∧ cv = .int .i64 j ∧ v = .slice (some ⟨w.heap.size + 1, 0, none⟩) (L + j) n ∧ Hid (wr.ownsRow w.heap.size 37 3 (.slice (some ⟨w.heap.size + 1, 0, none⟩) (L + j) n) (L + j) (cellsL (l ++ List.replicate j c))) ∧ Hid (wr.cell? ⟨w3.heap.size, 0, none⟩ = some (.bool c.null) ∧ wr.cell? ⟨w3.heap.size, 1, none⟩ = some (.int .i64 c.n) ∧ wr.cell? ⟨w3.heap.size, 2, none⟩ = some (.string c.s)) ∧ Hid (Rdr wr r s u2) ∧ Hid (w.grownBy wr (some r))) (fun _ cv _ => n - L - (intOf cv).toNat)
        case atStart => exact ⟨0, Nat.zero_le _, rfl, rfl, hide (by simpa using (unhide HO3).alloc _), HQ, HRB, hide ((unhide HG3).trans (World.grownBy_alloc _ _ _))⟩
        case round =>
          obtain ⟨j, hj, rfl, rfl, HOJ, HQJ, HRJ, HGJ⟩ := hrel
          by_cases hjl : j < n - L
          · have hjl' : (j : Int) < (n : Int) - (L : Int) := by omega
            obtain ⟨q0, q1, q2⟩ := unhide HQJ
            have hbw : w3.heap.size < wr.heap.size := World.block_lt_of_cell? _ _ q0
            go_wp2_with (at_builtin; refine wpList_append_fits _ rfl _ _ 22 rfl w.heap.size 37 i0 3 Try.underlying22 hi hz1 (w.heap.size + 1) (L + j) n _ rfl ((unhide HOJ).alloc _) ⟨wr.heap.size, 0, none⟩ 1 1 [.bool c.null, .int .i64 c.n, .string c.s] rfl rfl ?c1 ?c2 (by omega) ?_)
            case c1 =>
              intro j u hj
              match j, hj with
              | 0, hj => simp at hj; subst hj; simp [Addr.add]
              | 1, hj => simp at hj; subst hj; simp [Addr.add]
              | 2, hj => simp at hj; subst hj; simp [Addr.add]
            case c2 => intro u hu; simp at hu; rcases hu with rfl | rfl | rfl <;> rfl
            intro w5 ho5 hg5
            have hall := (World.grownBy_alloc wr (.cells #[.bool c.null, .int .i64 c.n, .string c.s] 37) (some (w.heap.size + 1))).trans hg5
            have HO5 := hide ho5
            have HQ5 := hide (And.intro (hall.cell q0 (by simp; omega)) (And.intro (hall.cell q1 (by simp; omega)) (hall.cell q2 (by simp; omega))))
            have HR5 := hide ((unhide HRJ).kept hall (by simp; omega))
            have HG5 := hide ((unhide HGJ).andThen hall (fun g hg => by cases hg; omega))
            clear ho5 hg5 hall q0 q1 q2
            go_wp2
            go_roundw
            case rel =>
              refine ⟨j + 1, by omega, by go_num, rfl, hide ?_, HQ5, HR5, HG5⟩
              have ho := unhide HO5
              rw [← cellsL_snoc, List.append_assoc] at ho
              rw [show List.replicate (j + 1) c = List.replicate j c ++ [c] from List.replicate_succ']
              exact ho
            case measure => simp [intOf]; omega
          · obtain rfl : j = n - L := by omega
            go_wp2_with fail
            go_roundw
            case rel =>
              refine ⟨L + (n - L), f, u2, l ++ List.replicate (n - L) c, hide (by rw [List.length_append, List.length_replicate, unhide HL]), by omega, by omega, by rw [Nat.add_mul]; omega, rfl, hide ?_, HOJ, HRJ, HGJ⟩
              have hd := (unhide HRD).symm.trans (unhide HD)
              rw [if_pos (by rw [unhide HL]; exact hlt), unhide HL, Nat.min_eq_right (show n - L ≤ z + 1 by omega)] at hd
              exact hd
            case measure => show n - (L + (n - L)) < n - L; omega
    · obtain rfl : L = n := by omega
      go_wp2
      go_ret
      refine ⟨_, rfl, ?_, unhide HGK⟩
      have hd := unhide HD
      rw [decRunsF_full _ _ _ _ _ _ (by rw [unhide HL]; omega)] at hd
      rw [← hd]
      exact unhide HO

end Go.Proofs.Ytgoihalolhmmdaa
