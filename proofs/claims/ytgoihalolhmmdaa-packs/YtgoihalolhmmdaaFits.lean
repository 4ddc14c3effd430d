import Derived.Test.YtgoihalolhmmdaaCopy
namespace Go.Proofs.Ytgoihalolhmmdaa
open Go.RowKit

set_option maxHeartbeats 800000 in
set_option maxRecDepth 100000 in
theorem fits_any (k : Int) (c : Cl) (w : World) (hk0 : 0 ≤ k) (hk2 : k ≤ 2) (hs : c.s.size ≤ 140737488351232) :
    Calls Try.prog 19 #[.int .i64 k, .agg #[.bool c.null, .int .i64 c.n, .string c.s]] w fun e w' => e = .returned (.bool (okB k c)) ∧ Below w.heap.size w w' := by
  obtain ⟨nl, n, s⟩ := c
  simp only at hs
  cases nl
  · by_cases h1 : k = 1
    · subst h1
      have e1 : ∀ b, b = (decide (n = 0) && strOk s) → b = okB 1 ⟨false, n, s⟩ := fun b h => h.trans (by simp [okB])
      have HE := hide e1
      clear e1
      by_cases hn : n = 0
      · subst hn
        by_cases h12 : s.size ≤ 12
        · have h12' : (s.size : Int) ≤ 12 := by omega
          go_enter Try.func19, Try.ntmps19
          go_wp2
          go_loop [5] (fun c => ∃ i : Nat, i ≤ s.size ∧ c = .int .i64 i ∧ Hid ((s.data.toList.take i).all byteOk = true)) (fun c => s.size - (intOf c).toNat)
          case atStart => exact ⟨0, Nat.zero_le _, rfl, hide (by simp)⟩
          case round =>
            obtain ⟨i, hi, rfl, HA⟩ := hrel
            by_cases hlt : i < s.size
            · have hlt' : (i : Int) < (s.size : Int) := by omega
              go_wp2
              · have hq : ((s[i].toNat : Int) < 32 ∨ (126 : Int) < (s[i].toNat : Int)) ∨ ((s[i].toNat : Int) == 39) = true := by assumption
                go_ret
                exact ⟨congrArg Ending.returned (congrArg Value.bool (unhide HE _ (by rw [strOk_bad s i hlt (byteOk_quote hq)]; rfl))), (Below.refl _ _).alloc (Nat.le_refl _) _⟩
              · have hq : ((32 : Int) ≤ (s[i].toNat : Int) ∧ (s[i].toNat : Int) ≤ 126) ∧ ((s[i].toNat : Int) == 39) = false := by assumption
                go_round
                case rel =>
                  refine ⟨i + 1, by omega, by go_num, hide ?_⟩
                  rw [List.take_succ_eq_append_getElem (by rw [size_list]; exact hlt), List.all_append, unhide HA]
                  have := byteOk_of hq.1.1 hq.1.2 hq.2
                  simp only [List.all_cons, List.all_nil, Bool.and_true, Bool.true_and]
                  exact this
                case measure => simp [intOf]; omega
              · have hq : (126 : Int) < (s[i].toNat : Int) := by assumption
                go_ret
                exact ⟨congrArg Ending.returned (congrArg Value.bool (unhide HE _ (by rw [strOk_bad s i hlt (byteOk_high hq)]; rfl))), (Below.refl _ _).alloc (Nat.le_refl _) _⟩
              · have hq : (s[i].toNat : Int) < 32 := by assumption
                go_ret
                exact ⟨congrArg Ending.returned (congrArg Value.bool (unhide HE _ (by rw [strOk_bad s i hlt (byteOk_low hq)]; rfl))), (Below.refl _ _).alloc (Nat.le_refl _) _⟩
            · go_wp2
              go_ret
              refine ⟨congrArg Ending.returned (congrArg Value.bool (unhide HE _ ?_)), (Below.refl _ _).alloc (Nat.le_refl _) _⟩
              have := unhide HA
              rw [List.take_of_length_le (by rw [size_list]; omega)] at this
              simp [strOk, h12, this]
        · have h12' : (12 : Int) < (s.size : Int) := by omega
          go_enter Try.func19, Try.ntmps19
          go_wp2
          go_ret
          exact ⟨congrArg Ending.returned (congrArg Value.bool (unhide HE _ (by simp [strOk, h12]))), (Below.refl _ _).alloc (Nat.le_refl _) _⟩
      · have hn' : (n != 0) = true := by simp [hn]
        have HN := hide hn
        clear hn
        go_enter Try.func19, Try.ntmps19
        go_wp2
        go_ret
        exact ⟨congrArg Ending.returned (congrArg Value.bool (unhide HE _ (by simp [unhide HN]))), (Below.refl _ _).alloc (Nat.le_refl _) _⟩
    · have h1' : k = 0 ∨ k = 2 := by omega
      rcases h1' with rfl | rfl
      · go_enter Try.func19, Try.ntmps19
        go_wp2
        all_goals (go_ret; refine ⟨congrArg Ending.returned (congrArg Value.bool ?_), (Below.refl _ _).alloc (Nat.le_refl _) _⟩)
        all_goals simp_all [okB]
      · go_enter Try.func19, Try.ntmps19
        go_wp2
        all_goals (go_ret; refine ⟨congrArg Ending.returned (congrArg Value.bool ?_), (Below.refl _ _).alloc (Nat.le_refl _) _⟩)
        all_goals simp_all [okB]
  · go_enter Try.func19, Try.ntmps19
    go_wp2
    all_goals (go_ret; refine ⟨congrArg Ending.returned (congrArg Value.bool ?_), (Below.refl _ _).alloc (Nat.le_refl _) _⟩)
    all_goals simp_all [okB]

def packErr (p k : Int) (cs : List Cl) : Int := if 64 < cs.length then 8 else if packOk p k cs then 0 else 7

set_option maxHeartbeats 800000 in
set_option maxRecDepth 100000 in
theorem packable_any (p k : Int) (cs : List Cl) (a : Option Addr) (b off cap : Nat) (w : World) (ha : 0 < cs.length → a = some ⟨b, off, none⟩) (hc : ColAt w b off cs) (hlen : cs.length * 32 ≤ 140737488351232) (hs : ∀ c ∈ cs, c.s.size ≤ 140737488351232) :
    Calls Try.prog 9 #[.int .i64 p, .int .i64 k, .slice a cs.length cap] w fun e w' => e = .returned (.int .i64 (packErr p k cs)) ∧ Below w.heap.size w w' := by
  by_cases h64 : 64 < cs.length
  · have h64' : (64 : Int) < (cs.length : Int) := by omega
    have HE : Hid (packErr p k cs = 8) := hide (by unfold packErr; rw [if_pos h64])
    clear hc ha hs
    go_enter Try.func9, Try.ntmps9
    go_wp2
    go_ret
    exact ⟨by rw [unhide HE]; rfl, Below.refl _ _⟩
  · have h64' : (cs.length : Int) ≤ 64 := by omega
    have HE : Hid (packErr p k cs = if packOk p k cs then 0 else 7) := hide (by unfold packErr; rw [if_neg h64])
    have HC := hide hc
    have HS := hide hs
    clear hc hs
    by_cases hpk : (0 ≤ p ∧ p ≤ 3) ∧ (0 ≤ k ∧ k ≤ 2)
    · obtain ⟨⟨hp0, hp3⟩, hk0, hk2⟩ := hpk
      have HOK : Hid (packOk p k cs = cs.all (okB k)) := hide (by unfold packOk; rw [decide_eq_true (show 0 ≤ p ∧ p ≤ 3 from ⟨hp0, hp3⟩), decide_eq_true (show 0 ≤ k ∧ k ≤ 2 from ⟨hk0, hk2⟩)]; simp)
      go_enter Try.func9, Try.ntmps9
      go_wp2
      go_loopw [7] (fun c wr => ∃ i : Nat, i ≤ cs.length ∧ c = .int .i64 i ∧ Hid (∀ j d, j < i → cs[j]? = some d → okB k d = true) ∧ Hid (Below w.heap.size w wr)) (fun c _ => cs.length - (intOf c).toNat)
      case atStart => exact ⟨0, Nat.zero_le _, rfl, hide (fun j d h => by omega), hide (Below.refl _ _)⟩
      case round =>
        obtain ⟨i, hi', rfl, HA, HB⟩ := hrel
        by_cases hlt : i < cs.length
        · have hlt' : (i : Int) < (cs.length : Int) := by omega
          obtain ⟨c, hci⟩ : ∃ c, cs[i]? = some c := ⟨cs[i], List.getElem?_eq_getElem hlt⟩
          obtain rfl := ha (by omega)
          obtain ⟨c0, c1, c2⟩ := (unhide HC).below (unhide HB) i c hci
          have HI := hide hci
          clear hci ha
          go_wp2_with fail
          refine (fits_any k c wr hk0 hk2 (unhide HS c (List.mem_of_getElem? (unhide HI)))).mono ?_
          rintro e w1 ⟨rfl, h1⟩
          have HB1 := hide ((unhide HB).trans (h1.mono (unhide HB).size))
          clear h1 c0 c1 c2
          cases hok : okB k c
          · have HK := hide hok
            clear hok
            go_wp2
            go_ret
            refine ⟨?_, unhide HB1⟩
            have : cs.all (okB k) = false := List.all_eq_false.2 ⟨c, List.mem_of_getElem? (unhide HI), by simp [unhide HK]⟩
            rw [unhide HE, unhide HOK, this]
            rfl
          · have HK := hide hok
            clear hok
            go_wp2
            go_roundw
            case rel =>
              refine ⟨i + 1, by omega, by go_num, hide ?_, HB1⟩
              intro j d hj hd
              by_cases hji : j = i
              · subst hji; rw [Option.some.inj (hd.symm.trans (unhide HI))]; exact unhide HK
              · exact unhide HA j d (by omega) hd
            case measure => simp [intOf]; omega
        · go_wp2
          go_ret
          refine ⟨?_, unhide HB⟩
          have : cs.all (okB k) = true := List.all_eq_true.2 (fun c hc => by
            obtain ⟨j, hj⟩ := List.getElem?_of_mem hc
            exact unhide HA j c (by have := (List.getElem?_eq_some_iff.1 hj).1; omega) hj)
          rw [unhide HE, unhide HOK, this]
          rfl
    · have HOK : Hid (packOk p k cs = false) := hide (by
        unfold packOk
        by_cases h1 : 0 ≤ p ∧ p ≤ 3
        · have h2 : ¬ (0 ≤ k ∧ k ≤ 2) := fun h => hpk ⟨h1, h⟩
          rw [decide_eq_false h2]; simp
        · rw [decide_eq_false h1]; simp)
      have hpk' : ¬ ((0 ≤ p ∧ p ≤ 3) ∧ (0 ≤ k ∧ k ≤ 2)) := hpk
      clear hpk
      go_enter Try.func9, Try.ntmps9
      go_wp2
      all_goals (go_ret; exact ⟨by rw [unhide HE, unhide HOK]; rfl, Below.refl _ _⟩)

end Go.Proofs.Ytgoihalolhmmdaa
