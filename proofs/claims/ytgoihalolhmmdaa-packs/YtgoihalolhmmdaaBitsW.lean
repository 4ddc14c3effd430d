import Derived.Test.YtgoihalolhmmdaaFrame
import Derived.Test.YtgoihalolhmmdaaDictW
namespace Go.Proofs.Ytgoihalolhmmdaa
open Go.RowKit

def encBitCell (nulls : Bool) (k least : Int) (width : Nat) (c : Cl) : List Bool :=
  (if nulls then [c.null] else []) ++ (if c.null then [] else if k = 1 then bitsOf c.s.size 4 ++ encBytes 7 c.s.data.toList else bitsOf (c.n - least).toNat width)
def encBitCells (nulls : Bool) (k least : Int) (width : Nat) (cs : List Cl) : List Bool := cs.flatMap (encBitCell nulls k least width)
theorem encBitCells_snoc (nulls : Bool) (k least : Int) (width : Nat) (cs : List Cl) (c : Cl) : encBitCells nulls k least width (cs ++ [c]) = encBitCells nulls k least width cs ++ encBitCell nulls k least width c := by
  simp [encBitCells, List.flatMap_append]
theorem encBitCell_le (nulls : Bool) (k least : Int) (width : Nat) (c : Cl) (hw : width ≤ 64) (hs : c.s.size ≤ 12) : (encBitCell nulls k least width c).length ≤ 89 := by
  unfold encBitCell
  rw [List.length_append]
  have h1 : (if nulls then [c.null] else []).length ≤ 1 := by split <;> simp
  have h2 : (if c.null then [] else if k = 1 then bitsOf c.s.size 4 ++ encBytes 7 c.s.data.toList else bitsOf (c.n - least).toNat width).length ≤ 88 := by
    split
    · simp
    · split
      · simp only [List.length_append, bitsOf_length, encBytes_length, size_list]; omega
      · rw [bitsOf_length]; omega
  omega
theorem encBitCells_le (nulls : Bool) (k least : Int) (width : Nat) (cs : List Cl) (hw : width ≤ 64) (hs : ∀ c ∈ cs, c.s.size ≤ 12) : (encBitCells nulls k least width cs).length ≤ 89 * cs.length := by
  induction cs with
  | nil => simp [encBitCells]
  | cons c r ih =>
    have e : encBitCells nulls k least width (c :: r) = encBitCell nulls k least width c ++ encBitCells nulls k least width r := rfl
    have h1 := encBitCell_le nulls k least width c hw (hs c (by simp))
    have h2 := ih (fun d hd => hs d (by simp [hd]))
    rw [e, List.length_append, List.length_cons]
    omega
def encBits (k : Int) (cs : List Cl) : List Bool :=
  [cs.any fun c => c.null] ++ (if k = 1 then [] else encNum (leastOf (numsOf cs)) ++ bitsOf (bitLen (spanOf (numsOf cs))) 7) ++ encBitCells (cs.any fun c => c.null) k (leastOf (numsOf cs)) (bitLen (spanOf (numsOf cs))) cs

/-- The loop over the cells: it is entered in a frame of its own. -/
theorem mem_nums {cs : List Cl} {c : Cl} (h : c ∈ cs) (hn : c.null = false) : c.n ∈ numsOf cs := by
  simp only [numsOf, List.mem_map, List.mem_filter]
  exact ⟨c, ⟨h, by simp [hn]⟩, rfl⟩

set_option maxHeartbeats 3200000 in
set_option maxRecDepth 100000 in
theorem bitsWrite_any (K : Nat → Prop) (p : Nat) (l : List Bool) (k : Int) (cs : List Cl) (a : Option Addr) (b off cap : Nat) (w : World) (hw : Writer K w p l)
    (ha : 0 < cs.length → a = some ⟨b, off, none⟩) (hc : ColAt w b off cs) (hK : 0 < cs.length → K b) (hok : ∀ c ∈ cs, Mild c) (hlen : cs.length ≤ 64) (hb : l.length ≤ 1000) :
    Calls Try.prog 63 #[.agg #[], .pointer (some ⟨p, 0, none⟩), .int .i64 k, .slice a cs.length cap] w fun e w' => e = .returned (.tuple #[]) ∧ Writer K w' p (l ++ encBits k cs) ∧ Keeps K w w' := by
  have hkp := Keeps.of_grown (World.grownBy_alloc w (.cells #[] 67) none) hw.old
  have hc0 : ColAt (w.alloc (.cells #[] 67)) b off cs := by
    intro i c hi
    exact hc.kept hkp (hK (by have := (List.getElem?_eq_some_iff.1 hi).1; omega)) i c hi
  have HN0 := hide (anyNull_any cs a b off cap (w.alloc (.cells #[] 67)) ha hc0 (by omega))
  have HE := hide (show encBits k cs = [cs.any fun c => c.null] ++ (if k = 1 then [] else encNum (leastOf (numsOf cs)) ++ bitsOf (bitLen (spanOf (numsOf cs))) 7) ++ encBitCells (cs.any fun c => c.null) k (leastOf (numsOf cs)) (bitLen (spanOf (numsOf cs))) cs from rfl)
  have hnin := numsOf_in (fun c h => (hok c h).1)
  have hli := leastOf_in hnin
  have hsp := bitLen_le64 (span_lt hnin)
  have hsub : ∀ c ∈ cs, c.null = false → IntKind.u64.wrap (IntKind.u64.wrap c.n - IntKind.u64.wrap (leastOf (numsOf cs))) = (((c.n - leastOf (numsOf cs)).toNat : Nat) : Int) ∧ (c.n - leastOf (numsOf cs)).toNat < 18446744073709551616 := by
    intro c h hn
    have h1 := leastOf_le (mem_nums h hn)
    refine ⟨wrap_sub (hok c h).1 hli h1, ?_⟩
    have h2 := (hok c h).1
    unfold inInt at h2 hli
    omega
  have hnull : ∀ c ∈ cs, (cs.any fun c => c.null) = false → c.null = false := by
    intro c h hn
    have := List.any_eq_false.1 hn c h
    simpa using this
  have HFR := fun (w' : World) (hc' : ColAt w' b off cs) => hide (frameOf_any cs a b off cap w' ha hc' (by omega) (fun c h => (hok c h).1))
  generalize hnulls : (cs.any fun c => c.null) = nulls at *
  generalize leastOf (numsOf cs) = least at *
  generalize bitLen (spanOf (numsOf cs)) = width at *
  have HC := hide hc
  have HO := hide hok
  have HW0 := hide (hw.alloc (.cells #[] 67))
  have HKP := hide hkp
  have HLI := hide hli
  have HSUB0 := hide hsub
  have HNULL := hide hnull
  have HFR' := hide HFR
  clear hc hok hw hkp hc0 hnin hli hsub hnull hnulls HFR
  go_enter Try.func63, Try.ntmps63
  go_wp2_with fail
  refine (unhide HN0).mono ?_
  rintro e w1 ⟨rfl, h1⟩
  have hg1 := grownBy_of_below h1
  have HW1 := hide ((unhide HW0).of_keeps hg1)
  have HK1 := hide ((unhide HKP).trans (Keeps.of_grown hg1 (unhide HW0).old))
  clear h1 hg1 HN0
  go_wp2_with fail
  refine (flag_any K p l nulls _ (unhide HW1) (by omega)).mono ?_
  rintro e w2 ⟨rfl, h1, h2⟩
  have HW2 := hide h1
  have HK2 := hide ((unhide HK1).trans h2)
  have hcol : ColAt w2 b off cs := by
    intro i c hi
    exact (unhide HC).kept (unhide HK2) (hK (by have := (List.getElem?_eq_some_iff.1 hi).1; omega)) i c hi
  have HF := unhide HFR' w2 hcol
  clear h1 h2 hcol HFR'
  go_wp2_with fail
  refine (unhide HF).mono ?_
  rintro e w3 ⟨rfl, h1⟩
  have hg3 := grownBy_of_below h1
  have HW3 := hide ((unhide HW2).of_keeps hg3)
  have HK3 := hide ((unhide HK2).trans (Keeps.of_grown hg3 (unhide HW2).old))
  clear h1 hg3 HF
  by_cases h1 : k = 1
  · have HK1 := hide h1
    have t1 : (k != 1) = false := by simp [h1]
    have t2 : (k == 1) = true := by simp [h1]
    clear h1
    have HWS := HW3
    have HKS := HK3
    go_wp2
    go_loopw [34] (fun cv wr => ∃ i : Nat, i ≤ cs.length ∧ cv = .int .i64 i ∧ Hid (Writer K wr p (l ++ [nulls] ++ encBitCells nulls k least width (cs.take i))) ∧ Hid (Keeps K w wr)) (fun cv _ => cs.length - (intOf cv).toNat)
    case atStart => exact ⟨0, Nat.zero_le _, rfl, by simpa [encBitCells, Hid] using unhide HWS, HKS⟩
    case round =>
      obtain ⟨i, hi, rfl, HWR, HK2⟩ := hrel
      by_cases hlt : i < cs.length
      · have hlt' : (i : Int) < (cs.length : Int) := by omega
        obtain ⟨c, hci⟩ : ∃ c, cs[i]? = some c := ⟨cs[i], List.getElem?_eq_getElem hlt⟩
        obtain rfl := ha (by omega)
        obtain ⟨c0, c1, c2⟩ := (unhide HC).kept (unhide HK2) (hK (by omega)) i c hci
        have hbw : b < wr.heap.size := World.block_lt_of_cell? _ _ c0
        have hcm := List.mem_of_getElem? hci
        have hss := (unhide HO c hcm).2
        have hle := encBitCells_le nulls k least width (cs.take i) hsp (fun d hd => (unhide HO d (List.mem_of_mem_take hd)).2)
        rw [List.length_take] at hle
        have q0 : (wr.alloc (.cells #[.bool c.null, .int .i64 c.n, .string c.s] 37)).cell? ⟨wr.heap.size, 0, none⟩ = some (.bool c.null) := by rw [World.cell?_alloc_at _ _ _ _ rfl]; rfl
        have q1 : (wr.alloc (.cells #[.bool c.null, .int .i64 c.n, .string c.s] 37)).cell? ⟨wr.heap.size, 1, none⟩ = some (.int .i64 c.n) := by rw [World.cell?_alloc_at _ _ _ _ rfl]; rfl
        have q2 : (wr.alloc (.cells #[.bool c.null, .int .i64 c.n, .string c.s] 37)).cell? ⟨wr.heap.size, 2, none⟩ = some (.string c.s) := by rw [World.cell?_alloc_at _ _ _ _ rfl]; rfl
        have HA := hide ((unhide HWR).also (K' := K2 K wr.heap.size (wr.heap.size + 1)) (World.grownBy_alloc wr (.cells #[.bool c.null, .int .i64 c.n, .string c.s] 37) none) (fun j hj => hj.elim Or.inl (fun h => Or.inr ⟨h.1, by simpa using h.2⟩)))
        have HI := hide hci
        have hsb := unhide HSUB0 c hcm
        have hnb := unhide HNULL c hcm
        clear hci ha hcm
        cases nulls
        · have hn := hnb rfl
          have HSUB := hide (hsb hn).1
          have hsl := (hsb hn).2
          have HN := hide hn
          rw [hn] at c0 q0 q1 q2 HA
          clear hsb hnb hn
          have H1 := HA
          have H2 := hide ((unhide HK2).alloc (unhide HWR).old (.cells #[.bool false, .int .i64 c.n, .string c.s] 37))
          go_wp2_with fail
          refine (put_int _ p _ _ _ _ (unhide H1) (by omega) (by omega) (by omega) (by simp only [List.length_append, List.length_cons, List.length_nil]; rw [show Int.toNat 4 = 4 from rfl]; omega)).mono ?_
          rintro e w2 ⟨rfl, h3, h4⟩
          have j2 := (h4.cell (p := ⟨wr.heap.size, 2, none⟩) (Or.inr ⟨Nat.le_refl _, Nat.lt_succ_self _⟩)).trans q2
          have H3 := hide h3
          have H4 := hide ((unhide H2).trans (h4.mono (fun _ h => Or.inl h)))
          clear h3 h4
          go_wp2_with fail
          refine (putString_any _ p _ c.s _ _ (unhide H3) (by omega) (by omega) (by omega) (by simp only [List.length_append, List.length_cons, List.length_nil, bitsOf_length]; rw [show Int.toNat 4 = 4 from rfl]; omega)).mono ?_
          rintro e w3 ⟨rfl, h5, h6⟩
          have H5 := hide h5
          have H6 := hide ((unhide H4).trans (h6.mono (fun _ h => Or.inl h)))
          clear h5 h6
          go_wp2
          go_roundw
          case rel =>
            refine ⟨i + 1, by omega, by go_num, hide ?_, H6⟩
            rw [take_succ_get (unhide HI), encBitCells_snoc, ← List.append_assoc]
            have h5 := (unhide H5).less (K' := K) (fun _ h => Or.inl h)
            rw [show encBitCell false k least width c = bitsOf c.s.size 4 ++ encBytes 7 c.s.data.toList from by unfold encBitCell; rw [unhide HN, if_neg (by simp), if_neg (by simp), if_pos (unhide HK1)]; rfl]
            simpa only [List.append_assoc, show Int.toNat 4 = 4 from rfl, show Int.toNat 7 = 7 from rfl, Int.toNat_natCast] using h5
          case measure => simp [intOf]; omega
        · cases hn : c.null
          · have HSUB := hide (hsb hn).1
            have hsl := (hsb hn).2
            have HN := hide hn
            rw [hn] at c0 q0 q1 q2 HA
            clear hsb hnb hn
            go_wp2_with fail
            refine (flag_any _ p _ _ _ (unhide HA) (by simp only [List.length_append, List.length_cons, List.length_nil]; omega)).mono ?_
            rintro e w1 ⟨rfl, h1, h2⟩
            have k0 := (h2.cell (p := ⟨wr.heap.size, 0, none⟩) (Or.inr ⟨Nat.le_refl _, Nat.lt_succ_self _⟩)).trans q0
            have k1 := (h2.cell (p := ⟨wr.heap.size, 1, none⟩) (Or.inr ⟨Nat.le_refl _, Nat.lt_succ_self _⟩)).trans q1
            have k2 := (h2.cell (p := ⟨wr.heap.size, 2, none⟩) (Or.inr ⟨Nat.le_refl _, Nat.lt_succ_self _⟩)).trans q2
            have H1 := hide h1
            have H2 := hide (((unhide HK2).alloc (unhide HWR).old _).trans (h2.mono (fun _ h => Or.inl h)))
            clear h1 h2
            go_wp2_with fail
            refine (put_int _ p _ _ _ _ (unhide H1) (by omega) (by omega) (by omega) (by simp only [List.length_append, List.length_cons, List.length_nil]; rw [show Int.toNat 4 = 4 from rfl]; omega)).mono ?_
            rintro e w2 ⟨rfl, h3, h4⟩
            have j2 := (h4.cell (p := ⟨wr.heap.size, 2, none⟩) (Or.inr ⟨Nat.le_refl _, Nat.lt_succ_self _⟩)).trans k2
            have H3 := hide h3
            have H4 := hide ((unhide H2).trans (h4.mono (fun _ h => Or.inl h)))
            clear h3 h4
            go_wp2_with fail
            refine (putString_any _ p _ c.s _ _ (unhide H3) (by omega) (by omega) (by omega) (by simp only [List.length_append, List.length_cons, List.length_nil, bitsOf_length]; rw [show Int.toNat 4 = 4 from rfl]; omega)).mono ?_
            rintro e w3 ⟨rfl, h5, h6⟩
            have H5 := hide h5
            have H6 := hide ((unhide H4).trans (h6.mono (fun _ h => Or.inl h)))
            clear h5 h6
            go_wp2
            go_roundw
            case rel =>
              refine ⟨i + 1, by omega, by go_num, hide ?_, H6⟩
              rw [take_succ_get (unhide HI), encBitCells_snoc, ← List.append_assoc]
              have h5 := (unhide H5).less (K' := K) (fun _ h => Or.inl h)
              rw [show encBitCell true k least width c = [false] ++ (bitsOf c.s.size 4 ++ encBytes 7 c.s.data.toList) from by unfold encBitCell; rw [unhide HN, if_pos rfl, if_neg (by simp), if_pos (unhide HK1)]]
              simpa only [List.append_assoc, show Int.toNat 4 = 4 from rfl, show Int.toNat 7 = 7 from rfl, Int.toNat_natCast] using h5
            case measure => simp [intOf]; omega
          · have HN := hide hn
            rw [hn] at c0 q0 q1 q2 HA
            clear hsb hnb hn
            go_wp2_with fail
            refine (flag_any _ p _ _ _ (unhide HA) (by simp only [List.length_append, List.length_cons, List.length_nil]; omega)).mono ?_
            rintro e w1 ⟨rfl, h1, h2⟩
            have k0 := (h2.cell (p := ⟨wr.heap.size, 0, none⟩) (Or.inr ⟨Nat.le_refl _, Nat.lt_succ_self _⟩)).trans q0
            have k1 := (h2.cell (p := ⟨wr.heap.size, 1, none⟩) (Or.inr ⟨Nat.le_refl _, Nat.lt_succ_self _⟩)).trans q1
            have k2 := (h2.cell (p := ⟨wr.heap.size, 2, none⟩) (Or.inr ⟨Nat.le_refl _, Nat.lt_succ_self _⟩)).trans q2
            have H1 := hide h1
            have H2 := hide (((unhide HK2).alloc (unhide HWR).old _).trans (h2.mono (fun _ h => Or.inl h)))
            clear h1 h2
            have H5 := H1
            have H6 := H2
            go_wp2
            go_roundw
            case rel =>
              refine ⟨i + 1, by omega, by go_num, hide ?_, H6⟩
              rw [take_succ_get (unhide HI), encBitCells_snoc, ← List.append_assoc]
              have h5 := (unhide H5).less (K' := K) (fun _ h => Or.inl h)
              rw [show encBitCell true k least width c = [true] from by unfold encBitCell; rw [unhide HN, if_pos rfl, if_pos rfl]; rfl]
              exact h5
            case measure => simp [intOf]; omega
      · obtain rfl : i = cs.length := by omega
        go_wp2
        go_end0
        refine ⟨rfl, ?_, unhide HK2⟩
        have h5 := unhide HWR
        rw [List.take_of_length_le (Nat.le_refl _)] at h5
        rw [unhide HE, if_pos (unhide HK1)]
        simpa only [List.append_assoc, List.nil_append] using h5
  · have HK1 := hide h1
    have t1 : (k != 1) = true := by simp [h1]
    have t2 : (k == 1) = false := by simp [h1]
    clear h1
    go_wp2_with fail
    refine (putNumber_any K p _ least _ (unhide HW3) (unhide HLI) (by simp only [List.length_append, List.length_cons, List.length_nil]; omega)).mono ?_
    rintro e w4 ⟨rfl, h1, h2⟩
    have HW4 := hide h1
    have HK4 := hide ((unhide HK3).trans h2)
    have hnl : (encNum least).length ≤ 72 := by rw [encNum_length]; have := bitLen_le64 (foldN_lt (unhide HLI)); omega
    clear h1 h2
    go_wp2_with fail
    refine (put_int K p _ _ _ _ (unhide HW4) (by omega) (by omega) (by omega) (by simp only [List.length_append, List.length_cons, List.length_nil]; rw [show Int.toNat 7 = 7 from rfl]; omega)).mono ?_
    rintro e w5 ⟨rfl, h1, h2⟩
    have HWS := hide (show Writer K w5 p (l ++ [nulls] ++ (encNum least ++ bitsOf width 7)) from by simpa only [List.append_assoc, Int.toNat_natCast, show Int.toNat 7 = 7 from rfl] using h1)
    have HKS := hide ((unhide HK4).trans h2)
    clear h1 h2
    go_wp2
    go_loopw [34] (fun cv wr => ∃ i : Nat, i ≤ cs.length ∧ cv = .int .i64 i ∧ Hid (Writer K wr p (l ++ [nulls] ++ (encNum least ++ bitsOf width 7) ++ encBitCells nulls k least width (cs.take i))) ∧ Hid (Keeps K w wr)) (fun cv _ => cs.length - (intOf cv).toNat)
    case atStart => exact ⟨0, Nat.zero_le _, rfl, by simpa [encBitCells, Hid] using unhide HWS, HKS⟩
    case round =>
      obtain ⟨i, hi, rfl, HWR, HK2⟩ := hrel
      by_cases hlt : i < cs.length
      · have hlt' : (i : Int) < (cs.length : Int) := by omega
        obtain ⟨c, hci⟩ : ∃ c, cs[i]? = some c := ⟨cs[i], List.getElem?_eq_getElem hlt⟩
        obtain rfl := ha (by omega)
        obtain ⟨c0, c1, c2⟩ := (unhide HC).kept (unhide HK2) (hK (by omega)) i c hci
        have hbw : b < wr.heap.size := World.block_lt_of_cell? _ _ c0
        have hcm := List.mem_of_getElem? hci
        have hss := (unhide HO c hcm).2
        have hle := encBitCells_le nulls k least width (cs.take i) hsp (fun d hd => (unhide HO d (List.mem_of_mem_take hd)).2)
        rw [List.length_take] at hle
        have q0 : (wr.alloc (.cells #[.bool c.null, .int .i64 c.n, .string c.s] 37)).cell? ⟨wr.heap.size, 0, none⟩ = some (.bool c.null) := by rw [World.cell?_alloc_at _ _ _ _ rfl]; rfl
        have q1 : (wr.alloc (.cells #[.bool c.null, .int .i64 c.n, .string c.s] 37)).cell? ⟨wr.heap.size, 1, none⟩ = some (.int .i64 c.n) := by rw [World.cell?_alloc_at _ _ _ _ rfl]; rfl
        have q2 : (wr.alloc (.cells #[.bool c.null, .int .i64 c.n, .string c.s] 37)).cell? ⟨wr.heap.size, 2, none⟩ = some (.string c.s) := by rw [World.cell?_alloc_at _ _ _ _ rfl]; rfl
        have HA := hide ((unhide HWR).also (K' := K2 K wr.heap.size (wr.heap.size + 1)) (World.grownBy_alloc wr (.cells #[.bool c.null, .int .i64 c.n, .string c.s] 37) none) (fun j hj => hj.elim Or.inl (fun h => Or.inr ⟨h.1, by simpa using h.2⟩)))
        have HI := hide hci
        have hsb := unhide HSUB0 c hcm
        have hnb := unhide HNULL c hcm
        clear hci ha hcm
        cases nulls
        · have hn := hnb rfl
          have HSUB := hide (hsb hn).1
          have hsl := (hsb hn).2
          have HN := hide hn
          rw [hn] at c0 q0 q1 q2 HA
          clear hsb hnb hn
          have H1 := HA
          have H2 := hide ((unhide HK2).alloc (unhide HWR).old (.cells #[.bool false, .int .i64 c.n, .string c.s] 37))
          go_wp2_with fail
          rw [unhide HSUB]
          refine (put_int _ p _ _ _ _ (unhide H1) (by omega) (by omega) (by omega) (by simp only [List.length_append, List.length_cons, List.length_nil, bitsOf_length, Int.toNat_natCast]; omega)).mono ?_
          rintro e w3 ⟨rfl, h5, h6⟩
          have H5 := hide h5
          have H6 := hide ((unhide H2).trans (h6.mono (fun _ h => Or.inl h)))
          clear h5 h6
          go_wp2
          go_roundw
          case rel =>
            refine ⟨i + 1, by omega, by go_num, hide ?_, H6⟩
            rw [take_succ_get (unhide HI), encBitCells_snoc, ← List.append_assoc]
            have h5 := (unhide H5).less (K' := K) (fun _ h => Or.inl h)
            rw [show encBitCell false k least width c = bitsOf (c.n - least).toNat width from by unfold encBitCell; rw [unhide HN, if_neg (by simp), if_neg (by simp), if_neg (unhide HK1)]; rfl]
            simpa only [List.append_assoc, Int.toNat_natCast] using h5
          case measure => simp [intOf]; omega
        · cases hn : c.null
          · have HSUB := hide (hsb hn).1
            have hsl := (hsb hn).2
            have HN := hide hn
            rw [hn] at c0 q0 q1 q2 HA
            clear hsb hnb hn
            go_wp2_with fail
            refine (flag_any _ p _ _ _ (unhide HA) (by simp only [List.length_append, List.length_cons, List.length_nil, bitsOf_length]; omega)).mono ?_
            rintro e w1 ⟨rfl, h1, h2⟩
            have k0 := (h2.cell (p := ⟨wr.heap.size, 0, none⟩) (Or.inr ⟨Nat.le_refl _, Nat.lt_succ_self _⟩)).trans q0
            have k1 := (h2.cell (p := ⟨wr.heap.size, 1, none⟩) (Or.inr ⟨Nat.le_refl _, Nat.lt_succ_self _⟩)).trans q1
            have k2 := (h2.cell (p := ⟨wr.heap.size, 2, none⟩) (Or.inr ⟨Nat.le_refl _, Nat.lt_succ_self _⟩)).trans q2
            have H1 := hide h1
            have H2 := hide (((unhide HK2).alloc (unhide HWR).old _).trans (h2.mono (fun _ h => Or.inl h)))
            clear h1 h2
            go_wp2_with fail
            rw [unhide HSUB]
            refine (put_int _ p _ _ _ _ (unhide H1) (by omega) (by omega) (by omega) (by simp only [List.length_append, List.length_cons, List.length_nil, bitsOf_length, Int.toNat_natCast]; omega)).mono ?_
            rintro e w3 ⟨rfl, h5, h6⟩
            have H5 := hide h5
            have H6 := hide ((unhide H2).trans (h6.mono (fun _ h => Or.inl h)))
            clear h5 h6
            go_wp2
            go_roundw
            case rel =>
              refine ⟨i + 1, by omega, by go_num, hide ?_, H6⟩
              rw [take_succ_get (unhide HI), encBitCells_snoc, ← List.append_assoc]
              have h5 := (unhide H5).less (K' := K) (fun _ h => Or.inl h)
              rw [show encBitCell true k least width c = [false] ++ bitsOf (c.n - least).toNat width from by unfold encBitCell; rw [unhide HN, if_pos rfl, if_neg (by simp), if_neg (unhide HK1)]]
              simpa only [List.append_assoc, Int.toNat_natCast] using h5
            case measure => simp [intOf]; omega
          · have HN := hide hn
            rw [hn] at c0 q0 q1 q2 HA
            clear hsb hnb hn
            go_wp2_with fail
            refine (flag_any _ p _ _ _ (unhide HA) (by simp only [List.length_append, List.length_cons, List.length_nil, bitsOf_length]; omega)).mono ?_
            rintro e w1 ⟨rfl, h1, h2⟩
            have k0 := (h2.cell (p := ⟨wr.heap.size, 0, none⟩) (Or.inr ⟨Nat.le_refl _, Nat.lt_succ_self _⟩)).trans q0
            have k1 := (h2.cell (p := ⟨wr.heap.size, 1, none⟩) (Or.inr ⟨Nat.le_refl _, Nat.lt_succ_self _⟩)).trans q1
            have k2 := (h2.cell (p := ⟨wr.heap.size, 2, none⟩) (Or.inr ⟨Nat.le_refl _, Nat.lt_succ_self _⟩)).trans q2
            have H1 := hide h1
            have H2 := hide (((unhide HK2).alloc (unhide HWR).old _).trans (h2.mono (fun _ h => Or.inl h)))
            clear h1 h2
            have H5 := H1
            have H6 := H2
            go_wp2
            go_roundw
            case rel =>
              refine ⟨i + 1, by omega, by go_num, hide ?_, H6⟩
              rw [take_succ_get (unhide HI), encBitCells_snoc, ← List.append_assoc]
              have h5 := (unhide H5).less (K' := K) (fun _ h => Or.inl h)
              rw [show encBitCell true k least width c = [true] from by unfold encBitCell; rw [unhide HN, if_pos rfl, if_pos rfl]; rfl]
              exact h5
            case measure => simp [intOf]; omega
      · obtain rfl : i = cs.length := by omega
        go_wp2
        go_end0
        refine ⟨rfl, ?_, unhide HK2⟩
        have h5 := unhide HWR
        rw [List.take_of_length_le (Nat.le_refl _)] at h5
        rw [unhide HE, if_neg (unhide HK1)]
        simpa only [List.append_assoc, List.nil_append] using h5

end Go.Proofs.Ytgoihalolhmmdaa
