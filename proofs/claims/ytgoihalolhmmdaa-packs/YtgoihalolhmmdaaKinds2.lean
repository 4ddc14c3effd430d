import Derived.Test.YtgoihalolhmmdaaKinds
import Derived.Deep.RegionWith
namespace Go.Proofs.Ytgoihalolhmmdaa
open Go.RowKit

theorem known_ents_eq (l : List Cl) (c : Cl) : known (ents l) c = known l c := by
  cases h : known l c
  · cases h2 : known (ents l) c
    · rfl
    · rw [(known_iff l c).2 (mem_ents ((known_iff _ _).1 h2))] at h; cases h
  · exact known_ents ((known_iff l c).1 h)
theorem known_take {l : List Cl} {j : Nat} {c d : Cl} (h : l[j]? = some d) : known (l.take (j + 1)) c = (known (l.take j) c || d.beq c) := by
  rw [take_succ_get h]; simp [known]
theorem ents_take {l : List Cl} {i : Nat} {c : Cl} (h : l[i]? = some c) : (ents (l.take (i + 1))).length = (ents (l.take i)).length + (if known (l.take i) c then 0 else 1) := by
  rw [take_succ_get h, ents_snoc, addTo, known_ents_eq]
  split <;> simp

set_option maxHeartbeats 800000 in
set_option maxRecDepth 100000 in
theorem kinds_any (k : Int) (cs : List Cl) (a : Option Addr) (b off cap : Nat) (w : World) (ha : 0 < cs.length → a = some ⟨b, off, none⟩) (hc : ColAt w b off cs) (hlen : cs.length ≤ 64) (hf : ∀ c ∈ cs, FitsK k c) :
    Calls Try.prog 21 #[.slice a cs.length cap] w fun e w' => e = .returned (.int .i64 ((ents cs).length : Int)) ∧ Below w.heap.size w w' := by
  have HC := hide hc
  have HF := hide hf
  clear hc hf
  go_enter Try.func21, Try.ntmps21
  go_wp2
  go_loopw [3, 4] (fun n c wr => ∃ i : Nat, i ≤ cs.length ∧ c = .int .i64 i ∧ n = .int .i64 ((ents (cs.take i)).length : Int) ∧ Hid (Below w.heap.size w wr)) (fun _ c _ => cs.length - (intOf c).toNat)
  case atStart => exact ⟨0, Nat.zero_le _, rfl, rfl, hide (Below.refl _ _)⟩
  case round =>
    obtain ⟨i, hi', rfl, rfl, HB⟩ := hrel
    have hel : (ents (cs.take i)).length ≤ 64 := by have := ents_len (cs.take i); rw [List.length_take] at this; omega
    by_cases hlt : i < cs.length
    · have hlt' : (i : Int) < (cs.length : Int) := by omega
      obtain ⟨c, hci⟩ : ∃ c, cs[i]? = some c := ⟨cs[i], List.getElem?_eq_getElem hlt⟩
      obtain rfl := ha (by omega)
      have hcf := unhide HF c (List.mem_of_getElem? hci)
      have HI := hide hci
      have HCF := hide hcf
      clear hci hcf ha
      generalize hE : (ents (cs.take i)).length = en at *
      have HE := hide hE
      clear hE
      go_wp2_with fail
      go_loopw [5, 6] (fun f c' wi => ∃ j : Nat, j ≤ i ∧ c' = .int .i64 j ∧ f = .bool (!known (cs.take j) c) ∧ Hid (Below w.heap.size w wi)) (fun _ c' _ => i - (intOf c').toNat)
      case atStart => exact ⟨0, Nat.zero_le _, rfl, rfl, HB⟩
      case round =>
        obtain ⟨j, hj', rfl, rfl, HBI⟩ := hrel
        by_cases hjt : j < i
        · have hjt' : (j : Int) < (i : Int) := by omega
          have hjl : (j : Int) < (cs.length : Int) := by omega
          obtain ⟨d, hdj⟩ : ∃ d, cs[j]? = some d := ⟨cs[j], List.getElem?_eq_getElem (by omega)⟩
          obtain ⟨d0, d1, d2⟩ := (unhide HC).below (unhide HBI) j d hdj
          obtain ⟨c0, c1, c2⟩ := (unhide HC).below (unhide HBI) i c (unhide HI)
          have HO := hide (order_any k d c · (unhide HF d (List.mem_of_getElem? hdj)) (unhide HCF))
          have HKT := hide (known_take (c := c) hdj)
          clear hdj
          generalize known (cs.take j) c = kj at *
          go_wp2_with fail
          go_region_with (go_at_call 25; refine (unhide HO _).mono ?_; rintro e w1 ⟨⟨r, rfl, hr⟩, hb⟩)
          all_goals
            have HB1 : Hid (Below w.heap.size w w1) := hide (by
              have h := unhide HBI
              have h' := hb
              exact (show Below w.heap.size w wr.drew from ⟨h.os, h.tape, h.output, h.size, h.block⟩).trans (h'.mono h.size))
            clear hb c0 c1 c2 d0 d1 d2
            cases hq : d.beq c
            · rw [hq] at hr
              rw [hq] at HKT
              clear hq
              go_wp2
              go_roundw
              case rel => exact ⟨j + 1, by omega, by go_num, by rw [unhide HKT]; simp, HB1⟩
              case measure => simp [intOf]; omega
            · rw [hq] at hr
              rw [hq] at HKT
              clear hq
              go_wp2
              go_roundw
              case rel => exact ⟨j + 1, by omega, by go_num, by rw [unhide HKT]; simp, HB1⟩
              case measure => simp [intOf]; omega
        · obtain rfl : j = i := by omega
          have HET := hide (ents_take (unhide HI))
          rw [unhide HE] at HET
          cases hk : known (cs.take j) c
          · rw [hk] at HET
            clear hk
            go_wp2
            go_roundw
            case rel => exact ⟨j + 1, by omega, by go_num, by rw [unhide HET]; go_num, HBI⟩
            case measure => simp [intOf]; omega
          · rw [hk] at HET
            clear hk
            go_wp2
            go_roundw
            case rel => exact ⟨j + 1, by omega, by go_num, by rw [unhide HET]; go_num, HBI⟩
            case measure => simp [intOf]; omega
    · obtain rfl : i = cs.length := by omega
      rw [List.take_of_length_le (Nat.le_refl _)]
      go_wp2
      go_ret
      exact ⟨rfl, unhide HB⟩

end Go.Proofs.Ytgoihalolhmmdaa
