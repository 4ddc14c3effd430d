import Derived.Test.YtgoihalolhmmdaaDict
namespace Go.Proofs.Ytgoihalolhmmdaa
open Go.RowKit Go.Maps Go.WideMaps

set_option maxHeartbeats 400000 in
set_option maxRecDepth 100000 in
theorem len_any (x : Int) (w : World) (h0 : 0 ≤ x) (h1 : x < 18446744073709551616) :
    Calls Try.prog 60 #[.int .u64 x] w fun e w' => e = .returned (.int .i64 (bitLen x.toNat : Int)) ∧ w = w' := by
  go_enter Try.func60, Try.ntmps60
  go_wp2_with (go_at_call 56; refine (len64_any _ _ h0 h1).mono ?_; rintro e w' ⟨rfl, rfl⟩)
  go_ret
  exact ⟨rfl, rfl⟩

set_option maxHeartbeats 400000 in
set_option maxRecDepth 100000 in
theorem placeWidth_any (n : Nat) (w : World) (h1 : n ≤ 255) :
    Calls Try.prog 59 #[.int .i64 (n : Int)] w fun e w' => e = .returned (.int .i64 (pw n : Int)) ∧ w = w' := by
  have e0 : (n : Int) < 1 → (bitLen (0 : Int).toNat : Int) = (pw n : Int) := by
    intro h
    have : n = 0 := by omega
    subst this; rfl
  have e1 : (1 : Int) ≤ n → (bitLen (n - 1) : Int) = (pw n : Int) := by
    intro h
    have : n - 1 = max n 1 - 1 := by omega
    rw [this]; rfl
  have H0 := hide e0
  have H1 := hide e1
  clear e0 e1
  go_enter Try.func59, Try.ntmps59
  go_wp2_with fail
  · refine (len_any _ _ (by omega) (by omega)).mono ?_
    rintro e w' ⟨rfl, rfl⟩
    go_wp2
    go_ret
    exact ⟨congrArg Ending.returned (congrArg (Value.int IntKind.i64) (unhide H0 (by assumption))), rfl⟩
  · refine (len_any _ _ (by omega) (by omega)).mono ?_
    rintro e w' ⟨rfl, rfl⟩
    go_wp2
    go_ret
    exact ⟨congrArg Ending.returned (congrArg (Value.int IntKind.i64) (unhide H1 (by assumption))), rfl⟩

theorem ownsRow_slice {w : World} {base : Nat} {e : TypeId} {size : Nat} {v : Value} {n : Nat} {xs : List Value} (h : w.ownsRow base e size v n xs) : ∃ a cap, v = .slice a n cap ∧ (0 < n → ∃ g, a = some ⟨g, 0, none⟩) ∧ n ≤ cap := by
  rcases h.2 with ⟨rfl, rfl⟩ | ⟨g, cap, cur, rfl, _, _, hn, _⟩
  · exact ⟨none, 0, rfl, fun h => by omega, by omega⟩
  · exact ⟨_, cap, rfl, fun _ => ⟨g, rfl⟩, hn⟩
theorem ownsRow_ne {w : World} {base : Nat} {e : TypeId} {size : Nat} {v : Value} {n : Nat} {xs : List Value} (h : w.ownsRow base e size v n xs) {M : Nat} (hM : M < base) : v.ownBlock = none ∨ v.ownBlock ≠ some M := by
  cases hv : v.ownBlock with
  | none => exact .inl rfl
  | some g => have := (h.lt g hv).1; exact .inr (by intro e; simp at e; omega)

/-- What K keeps, and the blocks from a to b. -/
def K2 (K : Nat → Prop) (a b : Nat) (j : Nat) : Prop := K j ∨ (a ≤ j ∧ j < b)

theorem cells_after {w w1 : World} {c : Cl} {M : Nat} (hg : (w.alloc (.cells #[.bool c.null, .int .i64 c.n, .string c.s] 37)).grownBy w1 (some M)) (hM : M < w.heap.size) :
    w1.cell? ⟨w.heap.size, 0, none⟩ = some (.bool c.null) ∧ w1.cell? ⟨w.heap.size, 1, none⟩ = some (.int .i64 c.n) ∧ w1.cell? ⟨w.heap.size, 2, none⟩ = some (.string c.s) := by
  refine ⟨hg.cell ?_ (by simp; omega), hg.cell ?_ (by simp; omega), hg.cell ?_ (by simp; omega)⟩ <;> (rw [World.cell?_alloc_at _ _ _ _ rfl]; rfl)

theorem Try.info37 : (Try.prog.info? 37).map (fun i => (i.zero, i.size, i.bytes)) = some (some (.agg #[.bool false, .int .i64 0, .string ByteArray.empty]), 3, 32) := by kernel_rfl

set_option maxHeartbeats 1600000 in
set_option maxRecDepth 100000 in
theorem dictWrite_any (K : Nat → Prop) (p : Nat) (l : List Bool) (k : Int) (cs : List Cl) (a : Option Addr) (b off cap : Nat) (w : World) (hw : Writer K w p l)
    (ha : 0 < cs.length → a = some ⟨b, off, none⟩) (hc : ColAt w b off cs) (hK : 0 < cs.length → K b) (hok : ∀ c ∈ cs, Mild c) (hlen : cs.length ≤ 64) (hb : l.length ≤ 1000) :
    Calls Try.prog 58 #[.agg #[], .pointer (some ⟨p, 0, none⟩), .int .i64 k, .slice a cs.length cap] w fun e w' => e = .returned (.tuple #[]) ∧ Writer K w' p (l ++ encDict k cs) ∧ Keeps K w w' := by
  obtain ⟨i0, hi, hz0, hz1, hz2⟩ := info_parts Try.info37
  have hmm := @run_makeMap Try.prog
  have HC := hide hc
  have HO := hide hok
  have HW := hide hw
  clear hc hok hw
  go_enter Try.func58, Try.ntmps58
  go_wp2
  go_loopw [9, 22] (fun v c wr => ∃ (i : Nat) (D : DataW Unit), i ≤ cs.length ∧ c = .int .i64 i ∧ Hid (DictOk (ents (cs.take i)) D) ∧ wr.ownsMap Try.prog 37 (plainElem Try.prog 3) (w.heap.size + 1) i D ∧ wr.ownsRow (w.heap.size + 2) 37 3 v (ents (cs.take i)).length (cellsL (ents (cs.take i))) ∧ Below w.heap.size w wr ∧ w.heap.size + 2 ≤ wr.heap.size)
    (fun _ c _ => cs.length - (intOf c).toNat)
  case atStart =>
    refine ⟨0, .map [], Nat.zero_le _, rfl, hide dictOk_nil, ?_, World.ownsRow_nil _ _ _ _, ((Below.refl _ _).alloc (Nat.le_refl _) _).alloc (by simp) _, by simp⟩
    have := World.ownsMap_made (H := Unit) (w.alloc (.cells #[] 66)) Try.prog 37 (plainElem Try.prog 3)
    simpa using this
  case round =>
    obtain ⟨i, D, hi', rfl, HDK, hmap, hown, hbel, hsz⟩ := hrel
    by_cases hlt : i < cs.length
    · have hlt' : (i : Int) < (cs.length : Int) := by omega
      obtain ⟨c, hci⟩ : ∃ c, cs[i]? = some c := ⟨cs[i], List.getElem?_eq_getElem hlt⟩
      obtain rfl := ha (by omega)
      obtain ⟨c0, c1, c2⟩ := (unhide HC) i c hci
      have hbw : b < w.heap.size := World.block_lt_of_cell? _ _ c0
      have hbw' : b < wr.heap.size := Nat.lt_of_lt_of_le hbw hbel.size
      rw [← hbel.cell (p := ⟨b, _, none⟩) hbw] at c0 c1 c2
      have hm := unhide HO c (List.mem_of_getElem? hci)
      have hkey := key_cell c hm
      have hD := (unhide HDK).2 c hm
      have hes := ents_len (cs.take i)
      rw [List.length_take] at hes
      have hsn : ents (cs.take (i + 1)) = addTo (ents (cs.take i)) c := by rw [take_succ_get hci, ents_snoc]
      generalize ents (cs.take i) = es at *
      have HSN := hide hsn
      have HM := hide hm
      have HB := hide hbel
      have HI := hide hci
      have HOWN := hide hown
      have HMAP := hide (hmap.alloc (.cells #[.bool c.null, .int .i64 c.n, .string c.s] 37))
      have HKEY := hide hkey
      clear hsn hm hbel hci hown hmap hkey ha hK
      obtain ⟨va, vcap, rfl, -, hvc⟩ := ownsRow_slice (unhide HOWN)
      cases hkn : known es c
      · rw [hkn] at hD
        have hhas := hD.1
        have HKN := hide hkn
        have HH := hide hhas
        clear hD hkn hhas
        go_wp2_with (first | (at_lookup; refine wpList_lookup_own_ok_int _ rfl _ _ 99 rfl 37 3 .i64 Try.keyed37 Try.underlying99 Try.underlying3 (Try.zero3 _) (w.heap.size + 1) i _ rfl (unhide HMAP) _ _ rfl (unhide HKEY) ?_; intro q hat hwc; rw [unhide HH]) | (at_mapUpdate; refine wpList_mapUpdate_own _ rfl _ _ _ 99 rfl 37 3 Try.keyed37 Try.underlying99 _ (w.heap.size + 1) i _ rfl (unhide HMAP) (by unfold maxLen; omega) _ _ _ rfl rfl (unhide HKEY) _ [] (plainElem_int Try.underlying3 (WalkArith.wf_i64 (by omega))) ?_; intro w1 hown1 hgrow1; clear hat hwc; obtain ⟨k0, k1, k2⟩ := cells_after hgrow1 (by omega)) | (at_builtin; refine wpList_append_own _ rfl _ _ 22 rfl (w.heap.size + 2) 37 i0 _ 3 32 Try.underlying22 hi hz0 hz1 hz2 rfl (by decide) _ _ _ rfl ((((unhide HOWN).alloc (.cells #[.bool c.null, .int .i64 c.n, .string c.s] 37)).kept hgrow1 (ownsRow_ne (unhide HOWN) (by omega))).alloc (.cells #[.bool c.null, .int .i64 c.n, .string c.s] 37)) ⟨w1.heap.size, 0, none⟩ 1 1 [.bool c.null, .int .i64 c.n, .string c.s] rfl rfl ?c1 ?c2 ?c3 ?c4 ?c5 ?_))
        case c1 =>
          intro j u hj
          match j, hj with
          | 0, hj => simp at hj; subst hj; simp [Addr.add]
          | 1, hj => simp at hj; subst hj; simp [Addr.add]
          | 2, hj => simp at hj; subst hj; simp [Addr.add]
        case c2 => intro u hu; simp at hu; rcases hu with rfl | rfl | rfl <;> rfl
        case c3 => unfold maxLen; omega
        case c4 => omega
        case c5 => have := hgrow1.size; simp at this ⊢; omega
        intro v' w2 hown2 hgrow2 _
        have hne := ownsRow_ne (unhide HOWN) (M := w.heap.size + 1) (by omega)
        have hrow : ∀ g, (Value.slice va es.length vcap).ownBlock = some g → w.heap.size ≤ g := fun g hg => by have := ((unhide HOWN).lt g hg).1; omega
        have s1 := hgrow1.size
        have s2 := hgrow2.size
        simp only [World.size_alloc] at s1 s2
        have HM1 := hide ((hown1.alloc (.cells #[.bool c.null, .int .i64 c.n, .string c.s] 37)).kept hgrow2 (by rcases hne with h | h; rw [h]; simp; exact Ne.symm h))
        have HB1 := hide (((((unhide HB).alloc (unhide HB).size (.cells #[.bool c.null, .int .i64 c.n, .string c.s] 37)).grown hgrow1 (by simp; omega) (fun j hj => by cases hj; omega)).alloc (by omega) (.cells #[.bool c.null, .int .i64 c.n, .string c.s] 37)).grown hgrow2 (by simp; omega) hrow)
        have HO2 := hide hown2
        clear hne hrow hown1 hgrow1 hgrow2 hown2 k0 k1 k2 c0 c1 c2
        go_wp2
        go_roundw
        case rel =>
          have e : ents (cs.take (i + 1)) = es ++ [c] := by rw [unhide HSN, addTo, unhide HKN]; rfl
          refine ⟨i + 1, _, by omega, by go_num, by rw [e]; exact hide ((unhide HDK).add (unhide HM) (unhide HKN)), unhide HM1, ?_, unhide HB1, by omega⟩
          rw [e, cellsL_snoc, List.length_append]
          exact unhide HO2
        case measure => simp [intOf]; omega
      · rw [hkn] at hD
        have hhas := hD.1
        have HKN := hide hkn
        have HH := hide hhas
        clear hD hkn hhas
        go_wp2_with (first | (at_lookup; refine wpList_lookup_own_ok_int _ rfl _ _ 99 rfl 37 3 .i64 Try.keyed37 Try.underlying99 Try.underlying3 (Try.zero3 _) (w.heap.size + 1) i _ rfl (unhide HMAP) _ _ rfl (unhide HKEY) ?_; intro q hat hwc; rw [unhide HH]; clear hat hwc) | fail)
        go_roundw
        case rel =>
          have e : ents (cs.take (i + 1)) = es := by rw [unhide HSN, addTo, unhide HKN]; rfl
          refine ⟨i + 1, D, by omega, by go_num, by rw [e]; exact HDK, (unhide HMAP).mono (by omega), by rw [e]; exact (unhide HOWN).alloc _, (unhide HB).alloc (unhide HB).size _, by simp; omega⟩
        case measure => simp [intOf]; omega
    · rename World => wa
      obtain rfl : i = cs.length := by omega
      rw [List.take_of_length_le (Nat.le_refl _)] at HDK hown
      have hes := ents_len cs
      have hmem : ∀ c ∈ ents cs, Mild c := fun c h => unhide HO c (mem_ents h)
      have hkn : ∀ c ∈ cs, known (ents cs) c = true := fun c h => known_ents h
      have HE := hide (show encDict k cs = bitsOf (ents cs).length 8 ++ encPlain k (ents cs) ++ encPlaces (ents cs) cs from rfl)
      generalize ents cs = es at *
      have HME := hide hmem
      have HKN := hide hkn
      obtain ⟨va, vcap, rfl, hva, hvc⟩ := ownsRow_slice hown
      have hg1 : w.grownBy wa none := grownBy_of_below hbel
      -- the writer, all that was made since kept too
      have HA := hide ((unhide HW).also (K' := K2 K w.heap.size wa.heap.size) hg1 (fun j hj => hj))
      have HC1 : Hid (ColAt wa b off cs) := by
        intro j c hj
        obtain ⟨h1, h2, h3⟩ := unhide HC j c hj
        have hbw : b < w.heap.size := World.block_lt_of_cell? _ _ h1
        exact ⟨(hbel.cell (p := ⟨b, _, none⟩) hbw).trans h1, (hbel.cell (p := ⟨b, _, none⟩) hbw).trans h2, (hbel.cell (p := ⟨b, _, none⟩) hbw).trans h3⟩
      have HOWN := hide hown
      have HMAP := hide hmap
      have HK0 := hide (Keeps.of_grown (K := K) hg1 (unhide HW).old)
      have HVA := hide hva
      clear hmem hkn hown hmap hbel hg1 hva
      go_wp2_with fail
      refine (put_int _ p l _ _ _ (unhide HA) (by omega) (by omega) (by omega) (by rw [show Int.toNat 8 = 8 from rfl]; omega)).mono ?_
      rintro e w1 ⟨rfl, h1, h2⟩
      rw [show Int.toNat 8 = 8 from rfl, Int.toNat_natCast] at h1
      have H1 := hide h1
      have H2 := hide h2
      clear h1 h2
      go_wp2
      go_loopw [50] (fun c w2 => ∃ j : Nat, j ≤ es.length ∧ c = .int .i64 j ∧ Hid (Writer (K2 K w.heap.size wa.heap.size) w2 p (l ++ bitsOf es.length 8 ++ encPlain k (es.take j))) ∧ Hid (Keeps (K2 K w.heap.size wa.heap.size) wa w2)) (fun c _ => es.length - (intOf c).toNat)
      case atStart => exact ⟨0, Nat.zero_le _, rfl, by simpa [encPlain, Hid] using unhide H1, H2⟩
      case round =>
        obtain ⟨j, hj, rfl, HW2, HK2⟩ := hrel
        by_cases hjl : j < es.length
        · have hjl' : (j : Int) < (es.length : Int) := by omega
          obtain ⟨g, rfl⟩ := unhide HVA (by omega)
          obtain ⟨c, hcj⟩ : ∃ c, es[j]? = some c := ⟨es[j], List.getElem?_eq_getElem hjl⟩
          have hgl := (unhide HOWN).lt g rfl
          obtain ⟨c0, c1, c2⟩ := (colAt_own (unhide HOWN)).kept (unhide HK2) (.inr ⟨by omega, hgl.2⟩) j c hcj
          have hbw : g < wr.heap.size := World.block_lt_of_cell? _ _ c0
          have hm := unhide HME c (List.mem_of_getElem? hcj)
          have hle := encPlain_le k (es.take j) (fun d hd => unhide HME d (List.mem_of_mem_take hd))
          rw [List.length_take] at hle
          have HJ := hide hcj
          have HMC := hide hm
          clear hcj hm hgl
          rw [Nat.zero_add] at c0 c1 c2
          go_wp2_with fail
          refine (putCell_any _ p _ k c _ ((unhide HW2).alloc _) (unhide HMC).1 (by have := (unhide HMC).2; omega) (by simp only [List.length_append, bitsOf_length]; omega)).mono ?_
          rintro e w3 ⟨rfl, h3, h4⟩
          have H3 := hide h3
          have H4 := hide (((unhide HK2).alloc (unhide HW2).old _).trans h4)
          clear h3 h4 hle c0 c1 c2
          go_wp2
          go_roundw
          case rel =>
            refine ⟨j + 1, by omega, by go_num, ?_, H4⟩
            rw [take_succ_get (unhide HJ), encPlain_snoc, ← List.append_assoc]
            exact H3
          case measure => simp [intOf]; omega
        · obtain rfl : j = es.length := by omega
          rw [List.take_of_length_le (Nat.le_refl _)] at HW2
          go_wp2_with fail
          refine (placeWidth_any es.length _ (by omega)).mono ?_
          rintro e w3 ⟨rfl, rfl⟩
          have hpw := pw_le es.length (by omega)
          go_wp2
          go_loopw [64] (fun c w3 => ∃ j : Nat, j ≤ cs.length ∧ c = .int .i64 j ∧ Hid (Writer (K2 K w.heap.size wa.heap.size) w3 p (l ++ bitsOf es.length 8 ++ encPlain k es ++ encPlaces es (cs.take j))) ∧ Hid (Keeps (K2 K w.heap.size wa.heap.size) wa w3)) (fun c _ => cs.length - (intOf c).toNat)
          case atStart => exact ⟨0, Nat.zero_le _, rfl, by simpa [encPlaces, Hid] using unhide HW2, HK2⟩
          case round =>
            obtain ⟨j, hj, rfl, HW3, HK3⟩ := hrel
            by_cases hjl : j < cs.length
            · have hjl' : (j : Int) < (cs.length : Int) := by omega
              obtain rfl := ha (by omega)
              obtain ⟨c, hcj⟩ : ∃ c, cs[j]? = some c := ⟨cs[j], List.getElem?_eq_getElem hjl⟩
              obtain ⟨c0, c1, c2⟩ := (unhide HC1).kept (unhide HK3) (.inl (hK (by omega))) j c hcj
              have hbw : b < wr.heap.size := World.block_lt_of_cell? _ _ c0
              have hmc := unhide HO c (List.mem_of_getElem? hcj)
              have hkn := unhide HKN c (List.mem_of_getElem? hcj)
              have hat := ((unhide HDK).2 c hmc).2 hkn
              have hpl := place_lt hkn
              have HAT := hide hat
              have HJ := hide hcj
              have HKEY := hide (key_cell c hmc)
              have HMAP3 := hide ((ownsMap_block (unhide HMAP) ((unhide HK3).block (w.heap.size + 1) (.inr ⟨by omega, by omega⟩))).alloc (.cells #[.bool c.null, .int .i64 c.n, .string c.s] 37))
              have hle := encPlain_le k es (fun d hd => unhide HME d hd)
              have hpl2 := encPlaces_len es (cs.take j)
              rw [List.length_take] at hpl2
              have hpl3 : min j cs.length * pw es.length ≤ 64 * 8 := Nat.mul_le_mul (by omega) (by omega)
              have HLE : Hid ((encPlaces es (cs.take j)).length ≤ 512) := by rw [hpl2]; exact hpl3
              clear hat hcj hkn hmc ha hK hpl2 hpl3
              generalize hq : place es c = q at *
              have HQ := hide hq
              clear hq
              go_wp2_with (first | (at_lookup; refine wpList_lookup_own_int _ rfl _ _ 99 rfl 37 3 .i64 Try.keyed37 Try.underlying99 Try.underlying3 (Try.zero3 _) (w.heap.size + 1) cs.length _ rfl (unhide HMAP3) _ _ rfl (unhide HKEY) ?_; intro q' hat' hwc; rw [unhide HAT] at hat'; obtain rfl : (q : Int) = q' := by simpa using hat') | fail)
              clear hat' hwc
              refine (put_int _ p _ _ _ _ ((unhide HW3).alloc _) (by omega) (by omega) (by omega) (by have := unhide HLE; simp only [List.length_append, bitsOf_length, Int.toNat_natCast]; omega)).mono ?_
              rintro e w4 ⟨rfl, h3, h4⟩
              rw [Int.toNat_natCast, Int.toNat_natCast] at h3
              have H3 := hide h3
              have H4 := hide (((unhide HK3).alloc (unhide HW3).old _).trans h4)
              clear h3 h4 hle c0 c1 c2
              go_wp2
              go_roundw
              case rel =>
                refine ⟨j + 1, by omega, by go_num, ?_, H4⟩
                rw [take_succ_get (unhide HJ), encPlaces_snoc, unhide HQ, ← List.append_assoc]
                exact H3
              case measure => simp [intOf]; omega
            · obtain rfl : j = cs.length := by omega
              rw [List.take_of_length_le (Nat.le_refl _)] at HW3
              go_wp2
              go_end0
              refine ⟨rfl, ?_, (unhide HK0).trans ((unhide HK3).mono (fun _ h => .inl h))⟩
              rw [unhide HE]
              have := (unhide HW3).less (K' := K) (fun _ h => .inl h)
              simpa only [List.append_assoc] using this

end Go.Proofs.Ytgoihalolhmmdaa
