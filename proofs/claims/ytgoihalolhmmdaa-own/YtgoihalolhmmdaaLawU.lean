import Derived.Test.YtgoihalolhmmdaaUnpack2
namespace Go.Proofs.Ytgoihalolhmmdaa
open Go.RowKit

set_option maxHeartbeats 400000 in
set_option maxRecDepth 100000 in
theorem num_any (e : Int) (w : World) : Calls Try.prog 10 #[.int .i64 e] w fun x w' => x = .returned (.int .i64 e) ∧ w = w' := by
  go_enter Try.func10, Try.ntmps10
  go_wp2
  go_ret
  exact ⟨rfl, rfl⟩

set_option maxHeartbeats 1600000 in
set_option maxRecDepth 100000 in
theorem unpacks_walk (s : ByteArray) (w : World) (hs : s.size ≤ 140737488351232) :
    Calls Try.prog 4 #[.string s] w fun e w' => e = .returned (.bool true) ∧ Below w.heap.size w w' := by
  go_enter Try.func4, Try.ntmps4
  go_wp2_with fail
  refine (unpack_any s w hs).mono ?_
  rintro e w1 ⟨hres, hb⟩
  have HB := hide hb
  clear hb
  rcases hres with ⟨hgood, v, rfl, hown⟩ | ⟨_, rfl⟩
  · unfold Good at hgood
    have hl := decBody_length s (rd s 0 8 : Int) (rd s 8 8 : Int) 24 (rd s 16 8)
    have hmade := decBody_made s (rd s 0 8 : Int) (rd s 8 8 : Int) 24 (rd s 16 8)
    generalize rd s 0 8 = pn at *
    generalize rd s 8 8 = kn at *
    generalize rd s 16 8 = n at *
    generalize decBody s (pn : Int) (kn : Int) 24 n = cs at *
    subst hl
    obtain ⟨hlen, hok, bs0, hlay0, heq0⟩ := hgood
    unfold packOk at hok
    simp only [Bool.and_eq_true, decide_eq_true_eq] at hok
    obtain ⟨⟨hp0, hp3⟩, ⟨hk0, hk2⟩, hall⟩ := hok
    obtain ⟨va, vcap, rfl, hva, hvc⟩ := ownsRow_slice hown
    have hin : ∀ c ∈ cs, inInt c.n := fun c h => (hmade c h).1
    have hsl : ∀ c ∈ cs, c.s.size ≤ 140737488351232 := fun c h => by have := (hmade c h).2; omega
    have hpack : ∀ (q : Nat) (w' : World), q ≤ 3 → w'.ownsRow w.heap.size 37 3 (.slice va cs.length vcap) cs.length (cellsL cs) →
        Calls Try.prog 8 #[.int .i64 (q : Int), .int .i64 (kn : Int), .slice va cs.length vcap] w' fun e w'' => (∃ bs, Lays bs (encPack (q : Int) (kn : Int) cs) ∧ e = .returned (.tuple #[.string (strOf bs), .int .i64 0])) ∧ Below w'.heap.size w' w'' := by
      intro q w' hq ho
      obtain ⟨g, hga, hcol⟩ := colAt_row ho
      exact pack_good (q : Int) (kn : Int) cs va g 0 vcap w' hga hcol hvc hlen hin hsl (by omega) (by omega) hk0 hk2 hall
    have HPACK := hide hpack
    have HLAY := hide hlay0
    have HEQ := hide heq0
    have HOWN := hide hown
    have hpn : pn ≤ 3 := by omega
    clear hpack hin hsl hall hk0 hk2 hp0 hp3 hlay0 heq0 hown hmade hva hvc hlen
    go_wp2_with (go_at_call 10; refine (num_any _ _).mono ?_; rintro e w' ⟨rfl, rfl⟩)
    go_loopw [6] (fun c wr => ∃ q : Nat, q ≤ pn ∧ c = .int .i64 q ∧ Hid (wr.ownsRow w.heap.size 37 3 (.slice va cs.length vcap) cs.length (cellsL cs)) ∧ Hid (Below w.heap.size w wr)) (fun c _ => 4 - (intOf c).toNat)
    case atStart => exact ⟨0, Nat.zero_le _, rfl, HOWN, HB⟩
    case round =>
      obtain ⟨q, hq, rfl, HO, HBW⟩ := hrel
      have hq4 : (q : Int) < 4 := by omega
      go_wp2_with fail
      refine (unhide HPACK q wr (by omega) (unhide HO)).mono ?_
      rintro e w2 ⟨⟨bs, hlay, rfl⟩, h2⟩
      have HB2 := hide ((unhide HBW).trans (h2.mono (unhide HBW).size))
      have HO2 := hide ((unhide HO).kept (grownBy_of_below h2) (by cases (Value.slice va cs.length vcap).ownBlock <;> simp))
      have HL := hide hlay
      clear h2 hlay
      by_cases heq : strOf bs = s
      · have hcmp : ((strOf bs).toList == s.toList) = true := by rw [heq]; simp
        clear heq
        go_wp2_with (go_at_call 10; refine (num_any _ _).mono ?_; rintro e w' ⟨rfl, rfl⟩)
        go_ret
        exact ⟨rfl, unhide HB2⟩
      · have hqp : q < pn := by
          rcases Nat.lt_or_ge q pn with h | h
          · exact h
          · have e : q = pn := by omega
            subst e
            exact absurd (by rw [(unhide HL).unique (unhide HLAY)]; exact unhide HEQ) heq
        have hcmp : ((strOf bs).toList == s.toList) = false := by
          rw [beq_eq_false_iff_ne]
          intro h
          rw [ByteArray.toList_eq, ByteArray.toList_eq] at h
          exact heq (by cases hx : strOf bs; cases hy : s; rw [hx, hy] at h; congr 1; exact Array.toList_inj.1 h)
        clear heq
        go_wp2_with (go_at_call 10; refine (num_any _ _).mono ?_; rintro e w' ⟨rfl, rfl⟩)
        go_roundw
        case rel => exact ⟨q + 1, by omega, by go_num, HO2, HB2⟩
        case measure => simp [intOf]; omega
  · go_wp2_with (go_at_call 10; refine (num_any _ _).mono ?_; rintro e w' ⟨rfl, rfl⟩)
    go_ret
    exact ⟨rfl, unhide HB⟩

end Go.Proofs.Ytgoihalolhmmdaa
