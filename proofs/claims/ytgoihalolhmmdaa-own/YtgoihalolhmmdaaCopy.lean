import Derived.Test.YtgoihalolhmmdaaUnpack2
import Derived.Deep.AppendLies
import Derived.Deep.RegionLaw
namespace Go.Proofs.Ytgoihalolhmmdaa
open Go.RowKit

theorem Try.info40 : (Try.prog.info? 40).map (fun i => (i.zero, i.size, i.bytes)) = some (some (.agg #[.bool false, .int .i64 0, .string ByteArray.empty]), 3, 32) := by kernel_rfl

theorem ColAt.below {w w' : World} {b off : Nat} {cs : List Cl} (h : ColAt w b off cs) (hb : Below w.heap.size w w') : ColAt w' b off cs := by
  intro i c hc
  obtain ⟨h1, h2, h3⟩ := h i c hc
  have hbw : b < w.heap.size := World.block_lt_of_cell? _ _ h1
  exact ⟨(hb.cell (p := ⟨b, _, none⟩) hbw).trans h1, (hb.cell (p := ⟨b, _, none⟩) hbw).trans h2, (hb.cell (p := ⟨b, _, none⟩) hbw).trans h3⟩

theorem new3 (w : World) (c : Cl) (t : TypeId) : ∀ j u, [Value.bool c.null, .int .i64 c.n, .string c.s][j]? = some u → (w.alloc (.cells #[.bool c.null, .int .i64 c.n, .string c.s] t)).cell? ((⟨w.heap.size, 0, none⟩ : Addr).add j) = some u := by
  intro j u hj
  rw [Addr.add_lit, Nat.zero_add, World.cell?_alloc_at _ _ _ _ rfl]
  simpa using hj
theorem one3 (c : Cl) : ∀ u ∈ [Value.bool c.null, .int .i64 c.n, .string c.s], u.oneCell' = true := by
  intro u hu
  simp at hu
  rcases hu with rfl | rfl | rfl <;> rfl

set_option maxHeartbeats 800000 in
set_option maxRecDepth 100000 in
theorem copied_any (cs : List Cl) (a : Option Addr) (b off cap : Nat) (w : World) (ha : 0 < cs.length → a = some ⟨b, off, none⟩) (hc : ColAt w b off cs) (hlen : cs.length * 32 ≤ 140737488351232) :
    Calls Try.prog 7 #[.slice a cs.length cap] w fun e w' => ∃ v, e = .returned v ∧ w'.ownsRow w.heap.size 37 3 v cs.length (cellsL cs) ∧ Below w.heap.size w w' := by
  obtain ⟨i0, hi, hz0, hz1, hz2⟩ := info_parts Try.info37
  have HC := hide hc
  clear hc
  go_enter Try.func7, Try.ntmps7
  go_wp2
  go_loopw [3, 4] (fun v c wr => ∃ i : Nat, i ≤ cs.length ∧ c = .int .i64 i ∧ Hid (wr.ownsRow w.heap.size 37 3 v i (cellsL (cs.take i))) ∧ Hid (Below w.heap.size w wr)) (fun _ c _ => cs.length - (intOf c).toNat)
  case atStart => exact ⟨0, Nat.zero_le _, rfl, hide (World.ownsRow_nil _ _ _ _), hide (Below.refl _ _)⟩
  case round =>
    obtain ⟨i, hi', rfl, HO, HB⟩ := hrel
    by_cases hlt : i < cs.length
    · have hlt' : (i : Int) < (cs.length : Int) := by omega
      obtain ⟨c, hci⟩ : ∃ c, cs[i]? = some c := ⟨cs[i], List.getElem?_eq_getElem hlt⟩
      obtain rfl := ha (by omega)
      obtain ⟨c0, c1, c2⟩ := (unhide HC).below (unhide HB) i c hci
      have hbw : b < wr.heap.size := World.block_lt_of_cell? _ _ c0
      have HI := hide hci
      have hws := (unhide HB).size
      clear hci ha
      go_wp2_with (at_builtin; refine wpList_append_own _ rfl _ _ 22 rfl w.heap.size 37 i0 _ 3 32 Try.underlying22 hi hz0 hz1 hz2 rfl (by decide) _ _ _ rfl ((unhide HO).alloc _) ⟨wr.heap.size, 0, none⟩ 1 1 [.bool c.null, .int .i64 c.n, .string c.s] rfl rfl ?c1 ?c2 ?c3 ?c4 ?c5 ?_)
      case c1 =>
        intro j u hj
        match j, hj with
        | 0, hj => simp at hj; subst hj; simp [Addr.add]
        | 1, hj => simp at hj; subst hj; simp [Addr.add]
        | 2, hj => simp at hj; subst hj; simp [Addr.add]
      case c2 => intro u hu; simp at hu; rcases hu with rfl | rfl | rfl <;> rfl
      case c3 => unfold maxLen; omega
      case c4 => omega
      case c5 => simp; omega
      intro v' w2 ho2 hg2 _
      have HO2 := hide ho2
      have HB2 := hide (((unhide HB).alloc hws (.cells #[.bool c.null, .int .i64 c.n, .string c.s] 37)).grown hg2 (by simp; omega) (fun g hg => ((unhide HO).lt g hg).1))
      clear ho2 hg2 c0 c1 c2
      go_wp2
      go_roundw
      case rel =>
        refine ⟨i + 1, by omega, by go_num, hide ?_, HB2⟩
        rw [take_succ_get (unhide HI), cellsL_snoc]
        exact unhide HO2
      case measure => simp [intOf]; omega
    · obtain rfl : i = cs.length := by omega
      rw [List.take_of_length_le (Nat.le_refl _)] at HO
      go_wp2
      go_ret
      exact ⟨_, rfl, unhide HO, unhide HB⟩

end Go.Proofs.Ytgoihalolhmmdaa
