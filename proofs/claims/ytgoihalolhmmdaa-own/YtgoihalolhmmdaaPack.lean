import Derived.Test.YtgoihalolhmmdaaBitsW
namespace Go.Proofs.Ytgoihalolhmmdaa
open Go.RowKit

set_option maxHeartbeats 400000 in
set_option maxRecDepth 100000 in
theorem isPacking_any (p : Int) (w : World) : Calls Try.prog 14 #[.int .i64 p] w fun e w' => e = .returned (.bool (decide (0 ≤ p ∧ p ≤ 3))) ∧ w = w' := by
  go_enter Try.func14, Try.ntmps14
  go_wp2
  all_goals (go_ret; refine ⟨congrArg Ending.returned (congrArg Value.bool ?_), rfl⟩)
  all_goals first | (simp_all; done) | (simp_all; omega)
set_option maxHeartbeats 400000 in
set_option maxRecDepth 100000 in
theorem isKind_any (p : Int) (w : World) : Calls Try.prog 15 #[.int .i64 p] w fun e w' => e = .returned (.bool (decide (0 ≤ p ∧ p ≤ 2))) ∧ w = w' := by
  go_enter Try.func15, Try.ntmps15
  go_wp2
  all_goals (go_ret; refine ⟨congrArg Ending.returned (congrArg Value.bool ?_), rfl⟩)
  all_goals first | (simp_all; done) | (simp_all; omega)
set_option maxHeartbeats 400000 in
set_option maxRecDepth 100000 in
theorem layoutOf_any (p : Int) (w : World) : Calls Try.prog 18 #[.int .i64 p] w fun e w' => e = .returned (.iface (if p = 1 then 65 else if p = 2 then 66 else if p = 3 then 67 else 68) (.agg #[])) ∧ w = w' := by
  go_enter Try.func18, Try.ntmps18
  go_wp2
  all_goals (go_ret; refine ⟨?_, rfl⟩)
  all_goals simp_all

/-- A text of these bytes. -/
def strOf (bs : List Nat) : ByteArray := ⟨(bs.map UInt8.ofNat).toArray⟩

def body (p k : Int) (cs : List Cl) : List Bool := if p = 1 then encRuns k cs else if p = 2 then encDict k cs else if p = 3 then encBits k cs else encPlain k cs
def encPack (p k : Int) (cs : List Cl) : List Bool := bitsOf p.toNat 8 ++ bitsOf k.toNat 8 ++ bitsOf cs.length 8 ++ body p k cs

theorem writer_new (w : World) : Writer (· < w.heap.size) (w.alloc (.cells #[.slice none 0 0, .int .i64 0] 46)) w.heap.size [] := by
  refine ⟨.slice none 0 0, [], Lays.nil, ?_, ?_, ?_, ?_, World.ownsRow_nil _ _ _ _, ?_, ?_, ?_, ?_⟩
  · rw [World.cell?_alloc_at _ _ _ _ rfl]; rfl
  · rw [World.cell?_alloc_at _ _ _ _ rfl]; rfl
  · exact World.frozen?_alloc_at _ _ _ _ rfl
  · exact World.frozen?_alloc_at _ _ _ _ rfl
  · simp [Value.ownBlock]
  · simp
  · intro g hg; simp [Value.ownBlock] at hg
  · intro k hk; simp; omega

theorem fold_push (ns : List Nat) : ∀ (acc : ByteArray), (ns.map (fun (n : Nat) => (n : Int))).foldl (fun r n => r.push (UInt8.ofNat n.toNat)) acc = ⟨acc.data ++ (ns.map UInt8.ofNat).toArray⟩ := by
  induction ns with
  | nil => intro acc; simp
  | cons n r ih =>
    intro acc
    rw [List.map_cons, List.foldl_cons, ih]
    congr 1
    simp [ByteArray.push]

theorem text_of {K : Nat → Prop} {w : World} {p g cap : Nat} {bs : List Nat} {l : List Bool} (h : Wr K w p (.slice (some ⟨g, 0, none⟩) bs.length cap) bs l) : (convert 44 9 (.slice (some ⟨g, 0, none⟩) bs.length cap)).run Try.prog w = .ok (.string (strOf bs)) w := by
  rw [run_convert_bytes_string w 44 9 5 _ _ _ Try.underlying44 Try.underlying5 Try.underlying9]
  have hl : (loadCells ⟨g, 0, none⟩ bs.length).run Try.prog w = .ok ((bs.map (fun (n : Nat) => (n : Int))).map (Value.int .u8)).toArray w := by
    have := run_loadCells_list (P := Try.prog) w ⟨g, 0, none⟩ (u8s bs) (h.own.cells rfl)
    rw [show (u8s bs).length = bs.length by simp [u8s]] at this
    rw [this]
    simp [u8s, Function.comp_def]
  rw [run_bytesToString w _ _ _ _ hl, fold_push]
  simp [strOf]

/-- The names of an interface's methods, as the program has them. -/
def methodName (P : Program) (t : TypeId) (i : Nat) : String := match P.underlying t with | some (.interface ms) => (ms.toList.map Prod.fst).getD i default | _ => default
theorem Try.write65 (w : World) : (method 206 65 (.agg #[]) (methodName Try.prog 50 1)).run Try.prog w = .ok (47, .agg #[]) w := by kernel_rfl
theorem Try.write66 (w : World) : (method 206 66 (.agg #[]) (methodName Try.prog 50 1)).run Try.prog w = .ok (58, .agg #[]) w := by kernel_rfl
theorem Try.write67 (w : World) : (method 206 67 (.agg #[]) (methodName Try.prog 50 1)).run Try.prog w = .ok (63, .agg #[]) w := by kernel_rfl
theorem Try.write68 (w : World) : (method 206 68 (.agg #[]) (methodName Try.prog 50 1)).run Try.prog w = .ok (67, .agg #[]) w := by kernel_rfl

set_option maxHeartbeats 1600000 in
set_option maxRecDepth 100000 in
theorem pack_good (p k : Int) (cs : List Cl) (a : Option Addr) (b off cap : Nat) (w : World) (ha : 0 < cs.length → a = some ⟨b, off, none⟩) (hc : ColAt w b off cs) (hcap : cs.length ≤ cap) (hlen : cs.length ≤ 64) (hn : ∀ c ∈ cs, inInt c.n)
    (hs : ∀ c ∈ cs, c.s.size ≤ 140737488351232) (hp0 : 0 ≤ p) (hp1 : p ≤ 3) (hk0 : 0 ≤ k) (hk1 : k ≤ 2) (hall : cs.all (okB k) = true) :
    Calls Try.prog 8 #[.int .i64 p, .int .i64 k, .slice a cs.length cap] w fun e w' => (∃ bs, Lays bs (encPack p k cs) ∧ e = .returned (.tuple #[.string (strOf bs), .int .i64 0])) ∧ Below w.heap.size w w' := by
  have hlen' : (cs.length : Int) ≤ 64 := by omega
  have H1 := hide (allOfKind_any k cs a b off cap w ha hc (by omega) hs)
  rw [hall] at H1
  have hpt : decide (0 ≤ p ∧ p ≤ 3) = true := by simp; omega
  have hkt : decide (0 ≤ k ∧ k ≤ 2) = true := by simp; omega
  have HP := hide (isPacking_any p w)
  have HKK := hide (isKind_any k w)
  rw [hpt] at HP
  rw [hkt] at HKK
  clear hpt hkt
  have hmild : ∀ c ∈ cs, Mild c := fun c h => fits_mild (okB_fits (hn c h) (List.all_eq_true.1 hall c h))
  have HM := hide hmild
  have HC := hide hc
  clear hmild hc hall hn hs
  go_enter Try.func8, Try.ntmps8
  go_wp2_with fail
  refine (unhide HP).mono ?_
  rintro e w1 ⟨rfl, rfl⟩
  go_wp2_with fail
  refine (unhide HKK).mono ?_
  rintro e w1 ⟨rfl, rfl⟩
  go_wp2_with fail
  refine (unhide H1).mono ?_
  rintro e w1 ⟨rfl, h1⟩
  have HB1 := hide h1
  clear h1 H1 HP HKK
  go_wp2_with fail
  refine (put_int _ _ _ _ _ _ (writer_new w1) (by omega) (by omega) (by omega) (by simp)).mono ?_
  rintro e w2 ⟨rfl, h1, h2⟩
  have HW2 := hide h1
  have HK2 := hide (((Keeps.refl (· < w1.heap.size) w1).alloc (fun _ h => h) _).trans h2)
  clear h1 h2
  go_wp2_with fail
  refine (put_int _ _ _ _ _ _ (unhide HW2) (by omega) (by omega) (by omega) (by simp [bitsOf_length])).mono ?_
  rintro e w3 ⟨rfl, h1, h2⟩
  have HW3 := hide h1
  have HK3 := hide ((unhide HK2).trans h2)
  clear h1 h2
  go_wp2_with fail
  refine (put_int _ _ _ _ _ _ (unhide HW3) (by omega) (by omega) (by omega) (by simp [bitsOf_length])).mono ?_
  rintro e w4 ⟨rfl, h1, h2⟩
  have HW4 := hide h1
  have HK4 := hide ((unhide HK3).trans h2)
  clear h1 h2
  go_wp2_with fail
  refine (layoutOf_any p w4).mono ?_
  rintro e w5 ⟨rfl, rfl⟩
  have hcol : ColAt w4 b off cs := by
    intro i c hi
    obtain ⟨h1, h2, h3⟩ := unhide HC i c hi
    have hb : b < w.heap.size := World.block_lt_of_cell? _ _ h1
    have hk := (unhide HB1).trans ((unhide HK4).below.mono (unhide HB1).size)
    exact ⟨(hk.cell (p := ⟨b, _, none⟩) hb).trans h1, (hk.cell (p := ⟨b, _, none⟩) hb).trans h2, (hk.cell (p := ⟨b, _, none⟩) hb).trans h3⟩
  have hkb : 0 < cs.length → b < w1.heap.size := by
    intro h
    have h0 := (unhide HC 0 cs[0] (List.getElem?_eq_getElem h)).1
    have hb : b < w.heap.size := World.block_lt_of_cell? _ _ h0
    exact Nat.lt_of_lt_of_le hb (unhide HB1).size
  have HCOL := hide hcol
  have HKB := hide hkb
  have HAA := hide ha
  have hll : ([] ++ bitsOf p.toNat (Int.toNat 8) ++ bitsOf k.toNat (Int.toNat 8) ++ bitsOf (cs.length : Int).toNat (Int.toNat 8)).length ≤ 1000 := by
    simp only [List.length_append, bitsOf_length, List.length_nil]; rw [show Int.toNat 8 = 8 from rfl]; omega
  have HLL := hide hll
  clear hcol hkb ha hll
  by_cases p1 : p = 1
  · rw [if_pos p1]
    have P1 := hide p1
    clear p1
    have hm := Try.write65
    simp [methodName, Try.underlying50] at hm
    go_wp2_with fail
    refine (runsWrite_any _ _ _ k cs a b off cap w4 (unhide HW4) (unhide HAA) (unhide HCOL) (unhide HKB) (unhide HM) hlen hcap (unhide HLL)).mono ?_
    rintro e w6 ⟨rfl, h1, h2⟩
    have h1' : Writer (· < w1.heap.size) w6 w1.heap.size (encPack p k cs) := by
      have e : encPack p k cs = [] ++ bitsOf p.toNat (Int.toNat 8) ++ bitsOf k.toNat (Int.toNat 8) ++ bitsOf (cs.length : Int).toNat (Int.toNat 8) ++ encRuns k cs := by
        unfold encPack body
        rw [if_pos (unhide P1)]
        rw [Int.toNat_natCast]; rfl
      rw [e]; exact h1
    have HK6 := hide ((unhide HB1).trans (((unhide HK4).trans h2).below.mono (unhide HB1).size))
    obtain ⟨v, bs, hwr⟩ := h1'
    have hbl : 0 < bs.length := by rw [hwr.lays.len]; unfold encPack; simp only [List.length_append, bitsOf_length]; omega
    obtain ⟨g, cap', rfl⟩ := hwr.slice hbl
    have ht := text_of hwr
    have hsl := hwr.sl
    have HL := hide hwr.lays
    clear h1 h2 hwr HW2 HW3 HW4
    go_wp2
    go_ret2
    exact ⟨⟨bs, unhide HL, rfl⟩, unhide HK6⟩
  · rw [if_neg p1]
    have P1 := hide p1
    clear p1
    by_cases p2 : p = 2
    · rw [if_pos p2]
      have P2 := hide p2
      clear p2
      have hm := Try.write66
      simp [methodName, Try.underlying50] at hm
      go_wp2_with fail
      refine (dictWrite_any _ _ _ k cs a b off cap w4 (unhide HW4) (unhide HAA) (unhide HCOL) (unhide HKB) (unhide HM) hlen (unhide HLL)).mono ?_
      rintro e w6 ⟨rfl, h1, h2⟩
      have h1' : Writer (· < w1.heap.size) w6 w1.heap.size (encPack p k cs) := by
        have e : encPack p k cs = [] ++ bitsOf p.toNat (Int.toNat 8) ++ bitsOf k.toNat (Int.toNat 8) ++ bitsOf (cs.length : Int).toNat (Int.toNat 8) ++ encDict k cs := by
          unfold encPack body
          rw [if_neg (unhide P1), if_pos (unhide P2)]
          rw [Int.toNat_natCast]; rfl
        rw [e]; exact h1
      have HK6 := hide ((unhide HB1).trans (((unhide HK4).trans h2).below.mono (unhide HB1).size))
      obtain ⟨v, bs, hwr⟩ := h1'
      have hbl : 0 < bs.length := by rw [hwr.lays.len]; unfold encPack; simp only [List.length_append, bitsOf_length]; omega
      obtain ⟨g, cap', rfl⟩ := hwr.slice hbl
      have ht := text_of hwr
      have hsl := hwr.sl
      have HL := hide hwr.lays
      clear h1 h2 hwr HW2 HW3 HW4
      go_wp2
      go_ret2
      exact ⟨⟨bs, unhide HL, rfl⟩, unhide HK6⟩
    · rw [if_neg p2]
      have P2 := hide p2
      clear p2
      by_cases p3 : p = 3
      · rw [if_pos p3]
        have P3 := hide p3
        clear p3
        have hm := Try.write67
        simp [methodName, Try.underlying50] at hm
        go_wp2_with fail
        refine (bitsWrite_any _ _ _ k cs a b off cap w4 (unhide HW4) (unhide HAA) (unhide HCOL) (unhide HKB) (unhide HM) hlen (unhide HLL)).mono ?_
        rintro e w6 ⟨rfl, h1, h2⟩
        have h1' : Writer (· < w1.heap.size) w6 w1.heap.size (encPack p k cs) := by
          have e : encPack p k cs = [] ++ bitsOf p.toNat (Int.toNat 8) ++ bitsOf k.toNat (Int.toNat 8) ++ bitsOf (cs.length : Int).toNat (Int.toNat 8) ++ encBits k cs := by
            unfold encPack body
            rw [if_neg (unhide P1), if_neg (unhide P2), if_pos (unhide P3)]
            rw [Int.toNat_natCast]; rfl
          rw [e]; exact h1
        have HK6 := hide ((unhide HB1).trans (((unhide HK4).trans h2).below.mono (unhide HB1).size))
        obtain ⟨v, bs, hwr⟩ := h1'
        have hbl : 0 < bs.length := by rw [hwr.lays.len]; unfold encPack; simp only [List.length_append, bitsOf_length]; omega
        obtain ⟨g, cap', rfl⟩ := hwr.slice hbl
        have ht := text_of hwr
        have hsl := hwr.sl
        have HL := hide hwr.lays
        clear h1 h2 hwr HW2 HW3 HW4
        go_wp2
        go_ret2
        exact ⟨⟨bs, unhide HL, rfl⟩, unhide HK6⟩
      · rw [if_neg p3]
        have P3 := hide p3
        clear p3
        have hm := Try.write68
        simp [methodName, Try.underlying50] at hm
        go_wp2_with fail
        refine (plainWrite_any _ _ _ k cs a b off cap w4 (unhide HW4) (unhide HAA) (unhide HCOL) (unhide HKB) (unhide HM) hlen (unhide HLL)).mono ?_
        rintro e w6 ⟨rfl, h1, h2⟩
        have h1' : Writer (· < w1.heap.size) w6 w1.heap.size (encPack p k cs) := by
          have e : encPack p k cs = [] ++ bitsOf p.toNat (Int.toNat 8) ++ bitsOf k.toNat (Int.toNat 8) ++ bitsOf (cs.length : Int).toNat (Int.toNat 8) ++ encPlain k cs := by
            unfold encPack body
            rw [if_neg (unhide P1), if_neg (unhide P2), if_neg (unhide P3)]
            rw [Int.toNat_natCast]; rfl
          rw [e]; exact h1
        have HK6 := hide ((unhide HB1).trans (((unhide HK4).trans h2).below.mono (unhide HB1).size))
        obtain ⟨v, bs, hwr⟩ := h1'
        have hbl : 0 < bs.length := by rw [hwr.lays.len]; unfold encPack; simp only [List.length_append, bitsOf_length]; omega
        obtain ⟨g, cap', rfl⟩ := hwr.slice hbl
        have ht := text_of hwr
        have hsl := hwr.sl
        have HL := hide hwr.lays
        clear h1 h2 hwr HW2 HW3 HW4
        go_wp2
        go_ret2
        exact ⟨⟨bs, unhide HL, rfl⟩, unhide HK6⟩

end Go.Proofs.Ytgoihalolhmmdaa
