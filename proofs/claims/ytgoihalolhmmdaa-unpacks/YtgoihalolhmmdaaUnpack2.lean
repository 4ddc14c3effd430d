import Derived.Test.YtgoihalolhmmdaaUnpack
namespace Go.Proofs.Ytgoihalolhmmdaa
open Go.RowKit

theorem colAt_row {w : World} {base n : Nat} {a : Option Addr} {cap : Nat} {cs : List Cl} (h : w.ownsRow base 37 3 (.slice a n cap) n (cellsL cs)) : ∃ g, (0 < cs.length → a = some ⟨g, 0, none⟩) ∧ ColAt w g 0 cs := by
  have hl : cs.length = n := by have := h.1; rw [cellsL_len] at this; omega
  by_cases hn : 0 < n
  · obtain ⟨a', cap', hv, hg, _⟩ := ownsRow_slice h
    obtain ⟨g, rfl⟩ := hg hn
    simp only [Value.slice.injEq] at hv
    obtain ⟨rfl, -, rfl⟩ := hv
    exact ⟨g, fun _ => rfl, colAt_own h⟩
  · refine ⟨0, fun h => by omega, fun i c hc => ?_⟩
    have := (List.getElem?_eq_some_iff.1 hc).1
    omega

set_option maxHeartbeats 3200000 in
set_option maxRecDepth 100000 in
theorem unpack_any (s : ByteArray) (w : World) (hs : s.size ≤ 140737488351232) :
    Calls Try.prog 12 #[.string s] w fun e w' => ((Good s ∧ ∃ v, e = .returned (.tuple #[.int .i64 (rd s 8 8 : Int), v, .int .i64 0]) ∧ w'.ownsRow w.heap.size 37 3 v (rd s 16 8) (cellsL (decBody s (rd s 0 8 : Int) (rd s 8 8 : Int) 24 (rd s 16 8)))) ∨
        (¬ Good s ∧ e = .returned (.tuple #[.int .i64 0, .slice none 0 0, .int .i64 2]))) ∧ Below w.heap.size w w' := by
  have HGD := hide (show Good s ↔ (rd s 16 8 ≤ 64 ∧ packOk (rd s 0 8 : Int) (rd s 8 8 : Int) (decBody s (rd s 0 8 : Int) (rd s 8 8 : Int) 24 (rd s 16 8)) = true ∧ ∃ bs, Lays bs (encPack (rd s 0 8 : Int) (rd s 8 8 : Int) (decBody s (rd s 0 8 : Int) (rd s 8 8 : Int) 24 (rd s 16 8))) ∧ strOf bs = s) from Iff.rfl)
  have hp8 := rd_lt_pow s 0 8
  have hk8 := rd_lt_pow s 8 8
  have hn8 := rd_lt_pow s 16 8
  have h28 : (2 : Nat) ^ 8 = 256 := by decide
  have hr0 : Rdr (w.alloc (.cells #[.string s, .int .i64 0] 56)) w.heap.size s 0 :=
    ⟨by rw [World.cell?_alloc_at _ _ _ _ rfl]; rfl, by rw [World.cell?_alloc_at _ _ _ _ rfl]; rfl, World.frozen?_alloc_at _ _ _ _ rfl⟩
  have HR0 := hide hr0
  clear hr0
  go_enter Try.func12, Try.ntmps12
  go_wp2_with fail
  refine (get_any w.heap.size s 0 _ _ (unhide HR0) hs (by omega) (by rw [show Int.toNat 8 = 8 from rfl]; omega)).mono ?_
  rintro e w2 ⟨rfl, h4, h5⟩
  rw [show Int.toNat 8 = 8 from rfl] at *
  have HR2 := hide h4
  have HG2 := hide ((World.grownBy_alloc w (.cells #[.string s, .int .i64 0] 56) (some w.heap.size)).trans h5)
  clear h4 h5
  generalize hPN : rd s 0 8 = pn at *
  have HPN := hide hPN
  clear hPN
  have hpn : pn < 256 := by omega
  go_wp2_with fail
  refine (get_any w.heap.size s (0 + 8) _ _ (unhide HR2) hs (by omega) (by rw [show Int.toNat 8 = 8 from rfl]; omega)).mono ?_
  rintro e w3 ⟨rfl, h4, h5⟩
  rw [show Int.toNat 8 = 8 from rfl, show 0 + 8 = 8 from rfl] at *
  have HR3 := hide h4
  have HG3 := hide ((unhide HG2).trans h5)
  clear h4 h5
  generalize hKN : rd s 8 8 = kn at *
  have HKN := hide hKN
  clear hKN
  have hkn : kn < 256 := by omega
  go_wp2_with fail
  refine (get_any w.heap.size s (8 + 8) _ _ (unhide HR3) hs (by omega) (by rw [show Int.toNat 8 = 8 from rfl]; omega)).mono ?_
  rintro e w4 ⟨rfl, h4, h5⟩
  rw [show Int.toNat 8 = 8 from rfl, show 8 + 8 = 16 from rfl, show 16 + 8 = 24 from rfl] at *
  have HR4 := hide h4
  have HG4 := hide ((unhide HG3).trans h5)
  clear h4 h5
  generalize hNN : rd s 16 8 = n at *
  have HNN := hide hNN
  clear hNN
  have hn : n ≤ 255 := by omega
  clear hp8 hk8 hn8 h28
  go_wp2_with fail
  refine (layoutOf_any _ w4).mono ?_
  rintro e w5 ⟨rfl, rfl⟩
  by_cases p1 : (pn : Int) = 1
  · rw [if_pos p1]
    have P1 := hide p1
    clear p1
    have hm := Try.read65
    simp [methodName, Try.underlying50] at hm
    go_wp2_with fail
    refine (runsRead_any w.heap.size s 24 (kn : Int) n w4 (unhide HR4) hs hn (by omega)).mono ?_
    rintro e w5 ⟨v, rfl, hown, hg5⟩
    have hcs : decRuns s (kn : Int) 24 n = decBody s (pn : Int) (kn : Int) 24 n := by unfold decBody; rw [if_pos (unhide P1)]
    rw [hcs] at hown
    clear hm hcs
    have hg := (unhide HG4).trans hg5
    have hmade := decBody_made s (pn : Int) (kn : Int) 24 n
    have hdl := decBody_length s (pn : Int) (kn : Int) 24 n
    generalize hCS : decBody s (pn : Int) (kn : Int) 24 n = cs at *
    have HCS := hide hCS
    clear hCS
    have hsz : w.heap.size ≤ w5.heap.size := hg.size
    have hbel : Below w.heap.size w w5 := ⟨hg.os, hg.tape, hg.output, hg.size, fun j hj => hg.block j hj (by simp; omega)⟩
    have hown' := ownsRow_mono hown (show w.heap.size ≤ w4.heap.size from (unhide HG4).size)
    obtain ⟨va, vcap, rfl, hva, hvc⟩ := ownsRow_slice hown'
    obtain ⟨g, hga, hcol⟩ := colAt_row hown'
    subst hdl
    have HOWN := hide hown'
    have HB5 := hide hbel
    clear hown hown' hg hg5 hbel hva
    have hin : ∀ c ∈ cs, inInt c.n := fun c h => (hmade c h).1
    have hsl : ∀ c ∈ cs, c.s.size ≤ 140737488351232 := fun c h => by have := (hmade c h).2; omega
    by_cases hlen : cs.length ≤ 64
    · cases hok : packOk (pn : Int) (kn : Int) cs
      · have HNG : Hid (¬ Good s) := hide (fun h => by have := ((unhide HGD).1 h).2.1; rw [hok] at this; cases this)
        have HP := hide (pack_type (pn : Int) (kn : Int) cs va g 0 vcap w5 hga hcol hlen hsl hok)
        clear hok hcol hga hmade hin hsl
        go_wp2_with fail
        refine (unhide HP).mono ?_
        rintro e w6 ⟨rfl, h6⟩
        have HB6 := hide ((unhide HB5).trans (h6.mono hsz))
        clear h6
        go_wp2
        go_ret3
        exact ⟨.inr ⟨unhide HNG, rfl⟩, unhide HB6⟩
      · have hok' := hok
        unfold packOk at hok'
        simp only [Bool.and_eq_true, decide_eq_true_eq] at hok'
        have HP := hide (pack_good (pn : Int) (kn : Int) cs va g 0 vcap w5 hga hcol hvc hlen hin hsl hok'.1.1 hok'.1.2 hok'.2.1.1 hok'.2.1.2 hok'.2.2)
        have HOK := hide hok
        clear hok hok' hcol hga hmade hin hsl
        go_wp2_with fail
        refine (unhide HP).mono ?_
        rintro e w6 ⟨⟨bs, hlay, rfl⟩, h6⟩
        have HB6 := hide ((unhide HB5).trans (h6.mono hsz))
        have HO6 := hide ((unhide HOWN).kept (grownBy_of_below h6) (by cases (Value.slice va cs.length vcap).ownBlock <;> simp))
        have HLAY := hide hlay
        clear h6 hlay
        by_cases heq : strOf bs = s
        · have HGOOD : Hid (Good s) := hide ((unhide HGD).2 ⟨hlen, unhide HOK, bs, unhide HLAY, heq⟩)
          have hcmp : ((strOf bs).toList == s.toList) = true := by rw [heq]; simp
          clear heq
          go_wp2
          go_ret3
          refine ⟨.inl ⟨unhide HGOOD, _, by rw [unhide HKN]; rfl, ?_⟩, unhide HB6⟩
          rw [unhide HPN, unhide HKN, unhide HNN, unhide HCS]
          exact unhide HO6
        · have HNG : Hid (¬ Good s) := hide (fun h => by
            obtain ⟨bs', hl', he'⟩ := ((unhide HGD).1 h).2.2
            exact heq (by rw [(unhide HLAY).unique hl']; exact he'))
          have hcmp : ((strOf bs).toList == s.toList) = false := by
            rw [beq_eq_false_iff_ne]
            intro h
            rw [ByteArray.toList_eq, ByteArray.toList_eq] at h
            exact heq (by cases hx : strOf bs; cases hy : s; rw [hx, hy] at h; congr 1; exact Array.toList_inj.1 h)
          clear heq
          go_wp2
          go_ret3
          exact ⟨.inr ⟨unhide HNG, rfl⟩, unhide HB6⟩
    · have HNG : Hid (¬ Good s) := hide (fun h => hlen ((unhide HGD).1 h).1)
      have HP := hide (pack_full (pn : Int) (kn : Int) cs.length va vcap w5 (by omega) (by omega))
      clear hcol hga hmade hin hsl
      go_wp2_with fail
      refine (unhide HP).mono ?_
      rintro e w6 ⟨rfl, rfl⟩
      go_wp2
      go_ret3
      exact ⟨.inr ⟨unhide HNG, rfl⟩, unhide HB5⟩
  · rw [if_neg p1]
    have P1 := hide p1
    clear p1
    by_cases p2 : (pn : Int) = 2
    · rw [if_pos p2]
      have P2 := hide p2
      clear p2
      have hm := Try.read66
      simp [methodName, Try.underlying50] at hm
      go_wp2_with fail
      refine (dictRead_any w.heap.size s 24 (kn : Int) n w4 (unhide HR4) hs hn (by omega)).mono ?_
      rintro e w5 ⟨v, rfl, hown, hg5⟩
      have hcs : decDict s (kn : Int) 24 n = decBody s (pn : Int) (kn : Int) 24 n := by unfold decBody; rw [if_neg (unhide P1), if_pos (unhide P2)]
      rw [hcs] at hown
      clear hm hcs
      have hg := (unhide HG4).trans hg5
      have hmade := decBody_made s (pn : Int) (kn : Int) 24 n
      have hdl := decBody_length s (pn : Int) (kn : Int) 24 n
      generalize hCS : decBody s (pn : Int) (kn : Int) 24 n = cs at *
      have HCS := hide hCS
      clear hCS
      have hsz : w.heap.size ≤ w5.heap.size := hg.size
      have hbel : Below w.heap.size w w5 := ⟨hg.os, hg.tape, hg.output, hg.size, fun j hj => hg.block j hj (by simp; omega)⟩
      have hown' := ownsRow_mono hown (show w.heap.size ≤ w4.heap.size from (unhide HG4).size)
      obtain ⟨va, vcap, rfl, hva, hvc⟩ := ownsRow_slice hown'
      obtain ⟨g, hga, hcol⟩ := colAt_row hown'
      subst hdl
      have HOWN := hide hown'
      have HB5 := hide hbel
      clear hown hown' hg hg5 hbel hva
      have hin : ∀ c ∈ cs, inInt c.n := fun c h => (hmade c h).1
      have hsl : ∀ c ∈ cs, c.s.size ≤ 140737488351232 := fun c h => by have := (hmade c h).2; omega
      by_cases hlen : cs.length ≤ 64
      · cases hok : packOk (pn : Int) (kn : Int) cs
        · have HNG : Hid (¬ Good s) := hide (fun h => by have := ((unhide HGD).1 h).2.1; rw [hok] at this; cases this)
          have HP := hide (pack_type (pn : Int) (kn : Int) cs va g 0 vcap w5 hga hcol hlen hsl hok)
          clear hok hcol hga hmade hin hsl
          go_wp2_with fail
          refine (unhide HP).mono ?_
          rintro e w6 ⟨rfl, h6⟩
          have HB6 := hide ((unhide HB5).trans (h6.mono hsz))
          clear h6
          go_wp2
          go_ret3
          exact ⟨.inr ⟨unhide HNG, rfl⟩, unhide HB6⟩
        · have hok' := hok
          unfold packOk at hok'
          simp only [Bool.and_eq_true, decide_eq_true_eq] at hok'
          have HP := hide (pack_good (pn : Int) (kn : Int) cs va g 0 vcap w5 hga hcol hvc hlen hin hsl hok'.1.1 hok'.1.2 hok'.2.1.1 hok'.2.1.2 hok'.2.2)
          have HOK := hide hok
          clear hok hok' hcol hga hmade hin hsl
          go_wp2_with fail
          refine (unhide HP).mono ?_
          rintro e w6 ⟨⟨bs, hlay, rfl⟩, h6⟩
          have HB6 := hide ((unhide HB5).trans (h6.mono hsz))
          have HO6 := hide ((unhide HOWN).kept (grownBy_of_below h6) (by cases (Value.slice va cs.length vcap).ownBlock <;> simp))
          have HLAY := hide hlay
          clear h6 hlay
          by_cases heq : strOf bs = s
          · have HGOOD : Hid (Good s) := hide ((unhide HGD).2 ⟨hlen, unhide HOK, bs, unhide HLAY, heq⟩)
            have hcmp : ((strOf bs).toList == s.toList) = true := by rw [heq]; simp
            clear heq
            go_wp2
            go_ret3
            refine ⟨.inl ⟨unhide HGOOD, _, by rw [unhide HKN]; rfl, ?_⟩, unhide HB6⟩
            rw [unhide HPN, unhide HKN, unhide HNN, unhide HCS]
            exact unhide HO6
          · have HNG : Hid (¬ Good s) := hide (fun h => by
              obtain ⟨bs', hl', he'⟩ := ((unhide HGD).1 h).2.2
              exact heq (by rw [(unhide HLAY).unique hl']; exact he'))
            have hcmp : ((strOf bs).toList == s.toList) = false := by
              rw [beq_eq_false_iff_ne]
              intro h
              rw [ByteArray.toList_eq, ByteArray.toList_eq] at h
              exact heq (by cases hx : strOf bs; cases hy : s; rw [hx, hy] at h; congr 1; exact Array.toList_inj.1 h)
            clear heq
            go_wp2
            go_ret3
            exact ⟨.inr ⟨unhide HNG, rfl⟩, unhide HB6⟩
      · have HNG : Hid (¬ Good s) := hide (fun h => hlen ((unhide HGD).1 h).1)
        have HP := hide (pack_full (pn : Int) (kn : Int) cs.length va vcap w5 (by omega) (by omega))
        clear hcol hga hmade hin hsl
        go_wp2_with fail
        refine (unhide HP).mono ?_
        rintro e w6 ⟨rfl, rfl⟩
        go_wp2
        go_ret3
        exact ⟨.inr ⟨unhide HNG, rfl⟩, unhide HB5⟩
    · rw [if_neg p2]
      have P2 := hide p2
      clear p2
      by_cases p3 : (pn : Int) = 3
      · rw [if_pos p3]
        have P3 := hide p3
        clear p3
        have hm := Try.read67
        simp [methodName, Try.underlying50] at hm
        go_wp2_with fail
        refine (bitsRead_any w.heap.size s 24 (kn : Int) n w4 (unhide HR4) hs hn (by omega)).mono ?_
        rintro e w5 ⟨v, rfl, hown, hg5⟩
        have hcs : decBits s (kn : Int) 24 n = decBody s (pn : Int) (kn : Int) 24 n := by unfold decBody; rw [if_neg (unhide P1), if_neg (unhide P2), if_pos (unhide P3)]
        rw [hcs] at hown
        clear hm hcs
        have hg := (unhide HG4).trans hg5
        have hmade := decBody_made s (pn : Int) (kn : Int) 24 n
        have hdl := decBody_length s (pn : Int) (kn : Int) 24 n
        generalize hCS : decBody s (pn : Int) (kn : Int) 24 n = cs at *
        have HCS := hide hCS
        clear hCS
        have hsz : w.heap.size ≤ w5.heap.size := hg.size
        have hbel : Below w.heap.size w w5 := ⟨hg.os, hg.tape, hg.output, hg.size, fun j hj => hg.block j hj (by simp; omega)⟩
        have hown' := ownsRow_mono hown (show w.heap.size ≤ w4.heap.size from (unhide HG4).size)
        obtain ⟨va, vcap, rfl, hva, hvc⟩ := ownsRow_slice hown'
        obtain ⟨g, hga, hcol⟩ := colAt_row hown'
        subst hdl
        have HOWN := hide hown'
        have HB5 := hide hbel
        clear hown hown' hg hg5 hbel hva
        have hin : ∀ c ∈ cs, inInt c.n := fun c h => (hmade c h).1
        have hsl : ∀ c ∈ cs, c.s.size ≤ 140737488351232 := fun c h => by have := (hmade c h).2; omega
        by_cases hlen : cs.length ≤ 64
        · cases hok : packOk (pn : Int) (kn : Int) cs
          · have HNG : Hid (¬ Good s) := hide (fun h => by have := ((unhide HGD).1 h).2.1; rw [hok] at this; cases this)
            have HP := hide (pack_type (pn : Int) (kn : Int) cs va g 0 vcap w5 hga hcol hlen hsl hok)
            clear hok hcol hga hmade hin hsl
            go_wp2_with fail
            refine (unhide HP).mono ?_
            rintro e w6 ⟨rfl, h6⟩
            have HB6 := hide ((unhide HB5).trans (h6.mono hsz))
            clear h6
            go_wp2
            go_ret3
            exact ⟨.inr ⟨unhide HNG, rfl⟩, unhide HB6⟩
          · have hok' := hok
            unfold packOk at hok'
            simp only [Bool.and_eq_true, decide_eq_true_eq] at hok'
            have HP := hide (pack_good (pn : Int) (kn : Int) cs va g 0 vcap w5 hga hcol hvc hlen hin hsl hok'.1.1 hok'.1.2 hok'.2.1.1 hok'.2.1.2 hok'.2.2)
            have HOK := hide hok
            clear hok hok' hcol hga hmade hin hsl
            go_wp2_with fail
            refine (unhide HP).mono ?_
            rintro e w6 ⟨⟨bs, hlay, rfl⟩, h6⟩
            have HB6 := hide ((unhide HB5).trans (h6.mono hsz))
            have HO6 := hide ((unhide HOWN).kept (grownBy_of_below h6) (by cases (Value.slice va cs.length vcap).ownBlock <;> simp))
            have HLAY := hide hlay
            clear h6 hlay
            by_cases heq : strOf bs = s
            · have HGOOD : Hid (Good s) := hide ((unhide HGD).2 ⟨hlen, unhide HOK, bs, unhide HLAY, heq⟩)
              have hcmp : ((strOf bs).toList == s.toList) = true := by rw [heq]; simp
              clear heq
              go_wp2
              go_ret3
              refine ⟨.inl ⟨unhide HGOOD, _, by rw [unhide HKN]; rfl, ?_⟩, unhide HB6⟩
              rw [unhide HPN, unhide HKN, unhide HNN, unhide HCS]
              exact unhide HO6
            · have HNG : Hid (¬ Good s) := hide (fun h => by
                obtain ⟨bs', hl', he'⟩ := ((unhide HGD).1 h).2.2
                exact heq (by rw [(unhide HLAY).unique hl']; exact he'))
              have hcmp : ((strOf bs).toList == s.toList) = false := by
                rw [beq_eq_false_iff_ne]
                intro h
                rw [ByteArray.toList_eq, ByteArray.toList_eq] at h
                exact heq (by cases hx : strOf bs; cases hy : s; rw [hx, hy] at h; congr 1; exact Array.toList_inj.1 h)
              clear heq
              go_wp2
              go_ret3
              exact ⟨.inr ⟨unhide HNG, rfl⟩, unhide HB6⟩
        · have HNG : Hid (¬ Good s) := hide (fun h => hlen ((unhide HGD).1 h).1)
          have HP := hide (pack_full (pn : Int) (kn : Int) cs.length va vcap w5 (by omega) (by omega))
          clear hcol hga hmade hin hsl
          go_wp2_with fail
          refine (unhide HP).mono ?_
          rintro e w6 ⟨rfl, rfl⟩
          go_wp2
          go_ret3
          exact ⟨.inr ⟨unhide HNG, rfl⟩, unhide HB5⟩
      · rw [if_neg p3]
        have P3 := hide p3
        clear p3
        have hm := Try.read68
        simp [methodName, Try.underlying50] at hm
        go_wp2_with fail
        refine (plainRead_any w.heap.size s 24 (kn : Int) n w4 (unhide HR4) hs hn (by omega)).mono ?_
        rintro e w5 ⟨v, rfl, hown, hg5⟩
        have hcs : (decN s (kn : Int) 24 n).1 = decBody s (pn : Int) (kn : Int) 24 n := by unfold decBody; rw [if_neg (unhide P1), if_neg (unhide P2), if_neg (unhide P3)]
        rw [hcs] at hown
        clear hm hcs
        have hg := (unhide HG4).trans hg5
        have hmade := decBody_made s (pn : Int) (kn : Int) 24 n
        have hdl := decBody_length s (pn : Int) (kn : Int) 24 n
        generalize hCS : decBody s (pn : Int) (kn : Int) 24 n = cs at *
        have HCS := hide hCS
        clear hCS
        have hsz : w.heap.size ≤ w5.heap.size := hg.size
        have hbel : Below w.heap.size w w5 := ⟨hg.os, hg.tape, hg.output, hg.size, fun j hj => hg.block j hj (by simp; omega)⟩
        have hown' := ownsRow_mono hown (show w.heap.size ≤ w4.heap.size from (unhide HG4).size)
        obtain ⟨va, vcap, rfl, hva, hvc⟩ := ownsRow_slice hown'
        obtain ⟨g, hga, hcol⟩ := colAt_row hown'
        subst hdl
        have HOWN := hide hown'
        have HB5 := hide hbel
        clear hown hown' hg hg5 hbel hva
        have hin : ∀ c ∈ cs, inInt c.n := fun c h => (hmade c h).1
        have hsl : ∀ c ∈ cs, c.s.size ≤ 140737488351232 := fun c h => by have := (hmade c h).2; omega
        by_cases hlen : cs.length ≤ 64
        · cases hok : packOk (pn : Int) (kn : Int) cs
          · have HNG : Hid (¬ Good s) := hide (fun h => by have := ((unhide HGD).1 h).2.1; rw [hok] at this; cases this)
            have HP := hide (pack_type (pn : Int) (kn : Int) cs va g 0 vcap w5 hga hcol hlen hsl hok)
            clear hok hcol hga hmade hin hsl
            go_wp2_with fail
            refine (unhide HP).mono ?_
            rintro e w6 ⟨rfl, h6⟩
            have HB6 := hide ((unhide HB5).trans (h6.mono hsz))
            clear h6
            go_wp2
            go_ret3
            exact ⟨.inr ⟨unhide HNG, rfl⟩, unhide HB6⟩
          · have hok' := hok
            unfold packOk at hok'
            simp only [Bool.and_eq_true, decide_eq_true_eq] at hok'
            have HP := hide (pack_good (pn : Int) (kn : Int) cs va g 0 vcap w5 hga hcol hvc hlen hin hsl hok'.1.1 hok'.1.2 hok'.2.1.1 hok'.2.1.2 hok'.2.2)
            have HOK := hide hok
            clear hok hok' hcol hga hmade hin hsl
            go_wp2_with fail
            refine (unhide HP).mono ?_
            rintro e w6 ⟨⟨bs, hlay, rfl⟩, h6⟩
            have HB6 := hide ((unhide HB5).trans (h6.mono hsz))
            have HO6 := hide ((unhide HOWN).kept (grownBy_of_below h6) (by cases (Value.slice va cs.length vcap).ownBlock <;> simp))
            have HLAY := hide hlay
            clear h6 hlay
            by_cases heq : strOf bs = s
            · have HGOOD : Hid (Good s) := hide ((unhide HGD).2 ⟨hlen, unhide HOK, bs, unhide HLAY, heq⟩)
              have hcmp : ((strOf bs).toList == s.toList) = true := by rw [heq]; simp
              clear heq
              go_wp2
              go_ret3
              refine ⟨.inl ⟨unhide HGOOD, _, by rw [unhide HKN]; rfl, ?_⟩, unhide HB6⟩
              rw [unhide HPN, unhide HKN, unhide HNN, unhide HCS]
              exact unhide HO6
            · have HNG : Hid (¬ Good s) := hide (fun h => by
                obtain ⟨bs', hl', he'⟩ := ((unhide HGD).1 h).2.2
                exact heq (by rw [(unhide HLAY).unique hl']; exact he'))
              have hcmp : ((strOf bs).toList == s.toList) = false := by
                rw [beq_eq_false_iff_ne]
                intro h
                rw [ByteArray.toList_eq, ByteArray.toList_eq] at h
                exact heq (by cases hx : strOf bs; cases hy : s; rw [hx, hy] at h; congr 1; exact Array.toList_inj.1 h)
              clear heq
              go_wp2
              go_ret3
              exact ⟨.inr ⟨unhide HNG, rfl⟩, unhide HB6⟩
        · have HNG : Hid (¬ Good s) := hide (fun h => hlen ((unhide HGD).1 h).1)
          have HP := hide (pack_full (pn : Int) (kn : Int) cs.length va vcap w5 (by omega) (by omega))
          clear hcol hga hmade hin hsl
          go_wp2_with fail
          refine (unhide HP).mono ?_
          rintro e w6 ⟨rfl, rfl⟩
          go_wp2
          go_ret3
          exact ⟨.inr ⟨unhide HNG, rfl⟩, unhide HB5⟩

end Go.Proofs.Ytgoihalolhmmdaa
