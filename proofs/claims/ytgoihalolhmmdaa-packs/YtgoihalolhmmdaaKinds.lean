import Derived.Test.YtgoihalolhmmdaaOwnW
namespace Go.Proofs.Ytgoihalolhmmdaa
open Go.RowKit

theorem index_letter (s : ByteArray) (i : Nat) (h : i < s.size) (w : World) : (Instr.index 9 (.string s) (.int .i64 (i : Int))).run Try.prog w = .ok (.int .u8 ((tbyte s i : Nat) : Int)) w := by
  have e := index_text s (i * 8) (by rw [Nat.mul_div_cancel _ (by omega)]; exact h) w
  rw [Nat.mul_div_cancel _ (by omega)] at e
  rwa [show ((i * 8 : Nat) : Int) / 8 = (i : Int) by omega] at e

theorem text_ext {s t : ByteArray} (hl : s.size = t.size) (h : ∀ i, i < s.size → tbyte s i = tbyte t i) : s = t := by
  have e : s.data.toList = t.data.toList := by
    apply List.ext_getElem
    · rw [size_list, size_list, hl]
    · intro i h1 h2
      have := h i (by rw [size_list] at h1; exact h1)
      unfold tbyte at this
      rw [List.getD, List.getD, List.getElem?_eq_getElem h1, List.getElem?_eq_getElem h2] at this
      exact UInt8.toNat.inj (by simpa using this)
  have e2 : s.data = t.data := Array.toList_inj.1 e
  cases s; cases t; simp_all

set_option maxHeartbeats 800000 in
set_option maxRecDepth 100000 in
theorem text_any (s t : ByteArray) (w : World) (hs : s.size ≤ 140737488351232) :
    Calls Try.prog 28 #[.string s, .string t] w fun e w' => (∃ r : Int, e = .returned (.int .i64 r) ∧ (r = 0 ↔ s = t)) ∧ Below w.heap.size w w' := by
  go_enter Try.func28, Try.ntmps28
  go_wp2
  go_loopw [5] (fun c wr => ∃ i : Nat, (i ≤ s.size ∧ i ≤ t.size) ∧ c = .int .i64 i ∧ Hid (∀ j, j < i → tbyte s j = tbyte t j) ∧ Hid (Below w.heap.size w wr)) (fun c _ => s.size - (intOf c).toNat)
  case atStart => exact ⟨0, ⟨Nat.zero_le _, Nat.zero_le _⟩, rfl, hide (fun j h => by omega), hide (Below.refl _ _)⟩
  case round =>
    obtain ⟨i, ⟨hi1, hi2⟩, rfl, HA, HB⟩ := hrel
    by_cases hlt : i < s.size ∧ i < t.size
    · obtain ⟨l1, l2⟩ := hlt
      have hl1 : (i : Int) < (s.size : Int) := by omega
      have hl2 : (i : Int) < (t.size : Int) := by omega
      have x1 := index_letter s i l1
      have x2 := index_letter t i l2
      by_cases he : tbyte s i = tbyte t i
      · have HE := hide he
        have he' : (((tbyte s i : Nat) : Int) != ((tbyte t i : Nat) : Int)) = false := by rw [he]; simp
        clear he
        go_wp2_with fail
        go_quiet (fail)
        go_wp2_with fail
        go_roundw
        case rel =>
          refine ⟨i + 1, by omega, by go_num, hide ?_, hide (by have h := unhide HB; exact ⟨h.os, h.tape, h.output, h.size, h.block⟩)⟩
          intro j hj
          by_cases hji : j = i
          · subst hji; exact unhide HE
          · exact unhide HA j (by omega)
        case measure => simp [intOf]; omega
      · have HE := hide he
        have he' : (((tbyte s i : Nat) : Int) != ((tbyte t i : Nat) : Int)) = true := by simp; omega
        have HR : ∀ r : Int, r ≠ 0 → (r = 0 ↔ s = t) := fun r hr => ⟨fun h => absurd h hr, fun h => absurd (by rw [h]) he⟩
        have HRR := hide HR
        clear he HR
        by_cases hl : tbyte s i < tbyte t i
        · have hl' : ((tbyte s i : Nat) : Int) < ((tbyte t i : Nat) : Int) := by omega
          go_wp2_with fail
          go_quiet (fail)
          go_wp2_with fail
          go_quiet (fail)
          go_wp2_with fail
          go_ret
          exact ⟨⟨_, rfl, unhide HRR _ (by decide)⟩, by have h := unhide HB; exact ⟨h.os, h.tape, h.output, h.size, h.block⟩⟩
        · have hl' : ((tbyte t i : Nat) : Int) ≤ ((tbyte s i : Nat) : Int) := by omega
          go_wp2_with fail
          go_quiet (fail)
          go_wp2_with fail
          go_quiet (fail)
          go_wp2_with fail
          go_ret
          exact ⟨⟨_, rfl, unhide HRR _ (by decide)⟩, by have h := unhide HB; exact ⟨h.os, h.tape, h.output, h.size, h.block⟩⟩
    · by_cases hq : s.size = t.size
      · have hq' : (((s.size : Nat) : Int) == ((t.size : Nat) : Int)) = true := by rw [hq]; simp
        have h1 : (s.size : Int) ≤ (i : Int) := by omega
        have hst : s = t := text_ext hq (fun j hj => unhide HA j (by omega))
        have HST := hide hst
        clear hst hq
        go_wp2
        go_ret
        exact ⟨⟨_, rfl, ⟨fun _ => unhide HST, fun _ => rfl⟩⟩, unhide HB⟩
      · have hq' : (((s.size : Nat) : Int) == ((t.size : Nat) : Int)) = false := by simp; omega
        have HRR : Hid (∀ r : Int, r ≠ 0 → (r = 0 ↔ s = t)) := hide fun r hr => ⟨fun h => absurd h hr, fun h => absurd (by rw [h]) hq⟩
        by_cases h1 : i < s.size
        · have h1' : (i : Int) < (s.size : Int) := by omega
          have h2 : (t.size : Int) ≤ (i : Int) := by omega
          have h3 : (t.size : Int) ≤ (s.size : Int) := by omega
          clear hlt hq
          go_wp2
          go_ret
          exact ⟨⟨_, rfl, unhide HRR _ (by decide)⟩, unhide HB⟩
        · have h1' : (s.size : Int) ≤ (i : Int) := by omega
          have h3 : (s.size : Int) < (t.size : Int) := by omega
          clear hlt hq
          go_wp2
          go_ret
          exact ⟨⟨_, rfl, unhide HRR _ (by decide)⟩, unhide HB⟩

set_option maxHeartbeats 800000 in
set_option maxRecDepth 100000 in
theorem order_any (k : Int) (c d : Cl) (w : World) (hc : FitsK k c) (hd : FitsK k d) :
    Calls Try.prog 25 #[.agg #[.bool c.null, .int .i64 c.n, .string c.s], .agg #[.bool d.null, .int .i64 d.n, .string d.s]] w fun e w' => (∃ r : Int, e = .returned (.int .i64 r) ∧ (r == 0) = c.beq d) ∧ Below w.heap.size w w' := by
  have hm1 := (fits_mild hc).2
  have hm2 := (fits_mild hd).2
  have hnn : c.null = true → d.null = true → c = d := by
    intro h1 h2
    have e1 := hc.2
    have e2 := hd.2
    rw [if_pos h1] at e1
    rw [if_pos h2] at e2
    exact Cl.ext' (h1.trans h2.symm) (e1.1.trans e2.1.symm) (e1.2.trans e2.2.symm)
  have HX : Hid (∀ r : Int, (r = 0 ↔ c = d) → (r == 0) = c.beq d) := hide fun r h => by
    cases hb : c.beq d
    · have : ¬ c = d := fun e => by rw [(Cl.beq_iff _ _).2 e] at hb; cases hb
      simp; exact fun e => this (h.1 e)
    · simp; exact h.2 ((Cl.beq_iff _ _).1 hb)
  have HNN := hide hnn
  clear hnn hc hd
  obtain ⟨cn, cx, ct⟩ := c
  obtain ⟨dn, dx, dt⟩ := d
  simp only at hm1 hm2 ⊢
  cases cn
  · cases dn
    · by_cases hlt : cx < dx
      · go_enter Try.func25, Try.ntmps25
        go_wp2
        go_ret
        exact ⟨⟨_, rfl, unhide HX _ ⟨fun h => absurd h (by decide), fun h => by have := congrArg Cl.n h; simp at this; omega⟩⟩, (((Below.refl _ _).alloc (Nat.le_refl _) _).alloc (by simp) _)⟩
      · by_cases hgt : dx < cx
        · have hle : dx ≤ cx := by omega
          go_enter Try.func25, Try.ntmps25
          go_wp2
          go_ret
          exact ⟨⟨_, rfl, unhide HX _ ⟨fun h => absurd h (by decide), fun h => by have := congrArg Cl.n h; simp at this; omega⟩⟩, (((Below.refl _ _).alloc (Nat.le_refl _) _).alloc (by simp) _)⟩
        · obtain rfl : cx = dx := by omega
          have hi : cx ≤ cx := by omega
          go_enter Try.func25, Try.ntmps25
          go_wp2_with fail
          refine (text_any ct dt _ (by omega)).mono ?_
          rintro e w1 ⟨⟨r, rfl, hr⟩, hb⟩
          have HB := hide hb
          have HR := hide hr
          clear hb hr
          go_wp2
          go_ret
          refine ⟨⟨_, rfl, unhide HX _ ((unhide HR).trans ⟨fun h => by rw [h], fun h => congrArg Cl.s h⟩)⟩, ?_⟩
          exact ((((Below.refl _ _).alloc (Nat.le_refl _) _).alloc (by simp) _)).trans ((unhide HB).mono (by simp; omega))
    · go_enter Try.func25, Try.ntmps25
      go_wp2
      go_ret
      exact ⟨⟨_, rfl, unhide HX _ ⟨fun h => absurd h (by decide), fun h => by have := congrArg Cl.null h; simp at this⟩⟩, (((Below.refl _ _).alloc (Nat.le_refl _) _).alloc (by simp) _)⟩
  · cases dn
    · go_enter Try.func25, Try.ntmps25
      go_wp2
      go_ret
      exact ⟨⟨_, rfl, unhide HX _ ⟨fun h => absurd h (by decide), fun h => by have := congrArg Cl.null h; simp at this⟩⟩, (((Below.refl _ _).alloc (Nat.le_refl _) _).alloc (by simp) _)⟩
    · go_enter Try.func25, Try.ntmps25
      go_wp2
      go_ret
      exact ⟨⟨_, rfl, unhide HX _ ⟨fun _ => unhide HNN trivial trivial, fun _ => rfl⟩⟩, (((Below.refl _ _).alloc (Nat.le_refl _) _).alloc (by simp) _)⟩

end Go.Proofs.Ytgoihalolhmmdaa
