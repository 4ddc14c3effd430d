import Derived.Test.YtgoihalolhmmdaaCopy
namespace Go.Proofs.Ytgoihalolhmmdaa
open Go.RowKit

set_option maxHeartbeats 800000 in
set_option maxRecDepth 100000 in
theorem cells_any (cs : List Cl) (a : Option Addr) (b off cap : Nat) (w : World) (ha : 0 < cs.length → a = some ⟨b, off, none⟩) (hc : ColAt w b off cs) (hlen : cs.length * 32 ≤ 140737488351232) :
    Calls Try.prog 6 #[.slice a cs.length cap] w fun e w' => ∃ v, e = .returned v ∧ w'.ownsRow w.heap.size 40 3 v cs.length (cellsL cs) ∧ Below w.heap.size w w' := by
  obtain ⟨i0, hi, hz0, hz1, hz2⟩ := info_parts Try.info40
  have HC := hide hc
  clear hc
  go_enter Try.func6, Try.ntmps6
  go_wp2
  go_loopw [3, 4] (fun v c wr => ∃ i : Nat, i ≤ cs.length ∧ c = .int .i64 i ∧ Hid (wr.ownsRow w.heap.size 40 3 v i (cellsL (cs.take i))) ∧ Hid (Below w.heap.size w wr)) (fun _ c _ => cs.length - (intOf c).toNat)
  case atStart => exact ⟨0, Nat.zero_le _, rfl, hide (World.ownsRow_nil _ _ _ _), hide (Below.refl _ _)⟩
  case round =>
    obtain ⟨i, hi', rfl, HO, HB⟩ := hrel
    by_cases hlt : i < cs.length
    · have hlt' : (i : Int) < (cs.length : Int) := by omega
      obtain ⟨c, hci⟩ : ∃ c, cs[i]? = some c := ⟨cs[i], List.getElem?_eq_getElem hlt⟩
      obtain rfl := ha (by omega)
      obtain ⟨c0, c1, c2⟩ := (unhide HC).below (unhide HB) i c hci
      have hbw : b < wr.heap.size := World.block_lt_of_cell? _ _ c0
      have HI := hide hci
      have hws := (unhide HB).size
      clear hci ha
      obtain ⟨va, vcap, rfl, -, hvc⟩ := ownsRow_slice (unhide HO)
      have s1 := hide (new3 wr.drew c 40)
      have s2 := hide (one3 c)
      have HOD := hide (((unhide HO).drew).alloc (.cells #[.bool c.null, .int .i64 c.n, .string c.s] 40))
      go_wp2_with fail
      go_region_law (refine step_append_lies _ rfl (.tmp 11) (.tmp 28) 23 rfl w.heap.size 40 i0 _ 3 32 Try.underlying23 hi hz0 hz1 hz2 rfl (by decide) _ _ _ (by simp [Act.eval]) (unhide HOD) ⟨wr.heap.size, 0, none⟩ 1 1 [.bool c.null, .int .i64 c.n, .string c.s] (by simp [Act.eval]) rfl (unhide s1) (unhide s2) (by decide) (by unfold maxLen; omega) (by omega) (by simp; omega) _ rfl ?_; intro g gcap w2 ho2 hg2 _ _)
      all_goals
        have HO2 := hide ho2
        have HB2 := hide ((((unhide HB).drew).alloc hws (.cells #[.bool c.null, .int .i64 c.n, .string c.s] 40)).grown hg2 (by simp; omega) (fun g hg => ((unhide HO).lt g hg).1))
        clear ho2 hg2 c0 c1 c2
        go_wp2
        go_roundw
        case rel =>
          refine ⟨i + 1, by omega, by go_num, hide ?_, HB2⟩
          rw [take_succ_get (unhide HI), cellsL_snoc]
          exact unhide HO2
        case measure => simp [intOf]; omega
    · obtain rfl : i = cs.length := by omega
      rw [List.take_of_length_le (Nat.le_refl _)] at HO
      go_wp2
      go_ret
      exact ⟨_, rfl, unhide HO, unhide HB⟩

end Go.Proofs.Ytgoihalolhmmdaa
