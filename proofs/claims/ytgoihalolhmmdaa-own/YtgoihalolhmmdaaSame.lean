import Derived.Test.YtgoihalolhmmdaaCopy
namespace Go.Proofs.Ytgoihalolhmmdaa
open Go.RowKit

set_option maxHeartbeats 800000 in
set_option maxRecDepth 100000 in
theorem same_any (cs : List Cl) (a a' : Option Addr) (b off cap b' off' cap' : Nat) (w : World) (ha : 0 < cs.length → a = some ⟨b, off, none⟩) (hc : ColAt w b off cs) (ha' : 0 < cs.length → a' = some ⟨b', off', none⟩) (hc' : ColAt w b' off' cs) (hlen : cs.length * 32 ≤ 140737488351232) :
    Calls Try.prog 11 #[.slice a cs.length cap, .slice a' cs.length cap'] w fun e w' => e = .returned (.bool true) ∧ Below w.heap.size w w' := by
  have HC := hide hc
  have HC' := hide hc'
  clear hc hc'
  go_enter Try.func11, Try.ntmps11
  go_wp2
  go_loopw [5] (fun c wr => ∃ i : Nat, i ≤ cs.length ∧ c = .int .i64 i ∧ Hid (Below w.heap.size w wr)) (fun c _ => cs.length - (intOf c).toNat)
  case atStart => exact ⟨0, Nat.zero_le _, rfl, hide (Below.refl _ _)⟩
  case round =>
    obtain ⟨i, hi', rfl, HB⟩ := hrel
    by_cases hlt : i < cs.length
    · have hlt' : (i : Int) < (cs.length : Int) := by omega
      obtain ⟨c, hci⟩ : ∃ c, cs[i]? = some c := ⟨cs[i], List.getElem?_eq_getElem hlt⟩
      obtain rfl := ha (by omega)
      obtain rfl := ha' (by omega)
      obtain ⟨c0, c1, c2⟩ := (unhide HC).below (unhide HB) i c hci
      obtain ⟨d0, d1, d2⟩ := (unhide HC').below (unhide HB) i c hci
      clear hci ha ha'
      go_wp2_with fail
      go_quiet (fail)
      go_wp2
      go_roundw
      case rel => exact ⟨i + 1, by omega, by go_num, hide (by have h := unhide HB; exact ⟨h.os, h.tape, h.output, h.size, h.block⟩)⟩
      case measure => simp [intOf]; omega
    · go_wp2
      go_ret
      exact ⟨rfl, unhide HB⟩

end Go.Proofs.Ytgoihalolhmmdaa
