import Derived.Test.YtgoihalolhmmdaaMost
namespace Go.Proofs.Ytgoihalolhmmdaa
open Go.RowKit

theorem cellsL_set3 (ds : List Cl) (i : Nat) (d c : Cl) (h : ds[i]? = some d) : (((cellsL ds).set (i * 3) (.bool c.null)).set (i * 3 + 1) (.int .i64 c.n)).set (i * 3 + 2) (.string c.s) = cellsL (ds.set i c) := by
  induction ds generalizing i with
  | nil => simp at h
  | cons a r ih =>
    have e : cellsL (a :: r) = [.bool a.null, .int .i64 a.n, .string a.s] ++ cellsL r := rfl
    cases i with
    | zero => rw [e]; rfl
    | succ i =>
      have hl : ∀ j, (i + 1) * 3 + j - [Value.bool a.null, .int .i64 a.n, .string a.s].length = i * 3 + j := fun j => by simp; omega
      have h0 : (i + 1) * 3 - [Value.bool a.null, .int .i64 a.n, .string a.s].length = i * 3 := by simp; omega
      rw [e, List.set_append_right _ _ (by simp; omega), List.set_append_right _ _ (by simp; omega), List.set_append_right _ _ (by simp; omega), hl, hl, h0, ih i (by simpa using h)]
      rfl

set_option maxHeartbeats 3200000 in
set_option maxRecDepth 100000 in
theorem packs_walk (p k : Int) (cs : List Cl) (a : Option Addr) (b off cap : Nat) (w : World) (ha : 0 < cs.length → a = some ⟨b, off, none⟩) (hc : ColAt w b off cs) (hcap : cs.length ≤ cap) (hlen : cs.length * 32 ≤ 140737488351232)
    (hin : ∀ c ∈ cs, inInt c.n) (hs : ∀ c ∈ cs, c.s.size ≤ 140737488351232) :
    Calls Try.prog 3 #[.int .i64 p, .int .i64 k, .slice a cs.length cap] w fun e w' => e = .returned (.bool true) ∧ Below w.heap.size w w' := by
  have HC := hide hc
  have HAA := hide ha
  have HIN := hide hin
  have HS := hide hs
  clear hc ha hin hs
  go_enter Try.func3, Try.ntmps3
  go_wp2_with fail
  refine (copied_any cs a b off cap w (unhide HAA) (unhide HC) hlen).mono ?_
  rintro e w1 ⟨v1, rfl, ho1, hb1⟩
  obtain ⟨a1, cap1, rfl, -, -⟩ := ownsRow_slice ho1
  obtain ⟨g1, hg1, hc1⟩ := colAt_rowE ho1
  have HB1 := hide hb1
  clear ho1
  go_wp2_with fail
  refine (cells_any cs a1 g1 0 cap1 w1 hg1 hc1 hlen).mono ?_
  rintro e w2 ⟨v2, rfl, ho2, hb2⟩
  obtain ⟨a2, cap2, rfl, -, -⟩ := ownsRow_slice ho2
  obtain ⟨g2, hg2, hc2⟩ := colAt_rowE ho2
  have HB2 := hide ((unhide HB1).trans (hb2.mono (unhide HB1).size))
  have HW2 := hide hc2
  have HG2 := hide hg2
  clear ho2 hb1 hb2 hg1 hc1 hc2 hg2
  go_wp2_with fail
  refine (pack_any p k cs a b off cap w2 (unhide HAA) ((unhide HC).below (unhide HB2)) hcap hlen (unhide HIN) (unhide HS)).mono ?_
  rintro e w3 ⟨hres, hb3⟩
  have HB3 := hide ((unhide HB2).trans (hb3.mono (unhide HB2).size))
  have HW3 := hide ((unhide HW2).below hb3)
  have HC3 := hide ((unhide HC).below (unhide HB3))
  clear hb3
  rcases hres with ⟨hne, rfl⟩ | ⟨he0, h64, hok, bs, hlay, rfl⟩
  · have hne' : (packErr p k cs != 0) = true := by simp [hne]
    have HP := hide (packable_any p k cs a2 g2 0 cap2 w3 (unhide HG2) (unhide HW3) hlen (unhide HS))
    generalize packErr p k cs = pe at *
    clear hne
    go_wp2_with fail
    refine (unhide HP).mono ?_
    rintro e w4 ⟨rfl, h4⟩
    have HB4 := hide ((unhide HB3).trans (h4.mono (unhide HB3).size))
    have HW4 := hide ((unhide HW3).below h4)
    have HC4 := hide ((unhide HC3).below h4)
    clear h4
    go_wp2_with fail
    refine (num_any _ _).mono ?_
    rintro e w' ⟨rfl, rfl⟩
    go_wp2_with fail
    refine (cells_any cs a b off cap w4 (unhide HAA) (unhide HC4) hlen).mono ?_
    rintro e w5 ⟨v5, rfl, ho5, hb5⟩
    obtain ⟨a5, cap5, rfl, -, -⟩ := ownsRow_slice ho5
    obtain ⟨g5, hg5, hc5⟩ := colAt_rowE ho5
    have HB5 := hide ((unhide HB4).trans (hb5.mono (unhide HB4).size))
    have HW5 := hide ((unhide HW4).below hb5)
    have HC5 := hide ((unhide HC4).below hb5)
    clear ho5 hb5
    go_wp2_with fail
    refine (same_any cs a5 a2 g5 0 cap5 g2 0 cap2 w5 hg5 hc5 (unhide HG2) (unhide HW5) hlen).mono ?_
    rintro e w6 ⟨rfl, hb6⟩
    have HB6 := hide ((unhide HB5).trans (hb6.mono (unhide HB5).size))
    have HW6 := hide ((unhide HW5).below hb6)
    have HC6 := hide ((unhide HC5).below hb6)
    clear hb6 hg5 hc5
    go_wp2
    go_ret
    exact ⟨rfl, unhide HB6⟩
  · have HP := hide (packable_any p k cs a2 g2 0 cap2 w3 (unhide HG2) (unhide HW3) hlen (unhide HS))
    rw [he0] at HP
    have HLAY := hide hlay
    have HOK := hide hok
    have HM := hide (most_holds p k cs bs hlay (fun c h => by
      unfold packOk at hok
      simp only [Bool.and_eq_true, decide_eq_true_eq] at hok
      exact fits_mild (okB_fits (unhide HIN c h) (List.all_eq_true.1 hok.2.2 c h))) h64)
    have HF : Hid (∀ c ∈ cs, FitsK k c) := hide (fun c h => by
      unfold packOk at hok
      simp only [Bool.and_eq_true, decide_eq_true_eq] at hok
      exact okB_fits (unhide HIN c h) (List.all_eq_true.1 hok.2.2 c h))
    clear he0 hlay hok
    go_wp2_with fail
    refine (unhide HP).mono ?_
    rintro e w4 ⟨rfl, h4⟩
    have HB4 := hide ((unhide HB3).trans (h4.mono (unhide HB3).size))
    have HW4 := hide ((unhide HW3).below h4)
    have HC4 := hide ((unhide HC3).below h4)
    clear h4
    go_wp2_with fail
    refine (num_any _ _).mono ?_
    rintro e w' ⟨rfl, rfl⟩
    go_wp2_with fail
    refine (cells_any cs a b off cap w4 (unhide HAA) (unhide HC4) hlen).mono ?_
    rintro e w5 ⟨v5, rfl, ho5, hb5⟩
    obtain ⟨a5, cap5, rfl, -, -⟩ := ownsRow_slice ho5
    obtain ⟨g5, hg5, hc5⟩ := colAt_rowE ho5
    have HB5 := hide ((unhide HB4).trans (hb5.mono (unhide HB4).size))
    have HW5 := hide ((unhide HW4).below hb5)
    have HC5 := hide ((unhide HC4).below hb5)
    clear ho5 hb5
    go_wp2_with fail
    refine (same_any cs a5 a2 g5 0 cap5 g2 0 cap2 w5 hg5 hc5 (unhide HG2) (unhide HW5) hlen).mono ?_
    rintro e w6 ⟨rfl, hb6⟩
    have HB6 := hide ((unhide HB5).trans (hb6.mono (unhide HB5).size))
    have HW6 := hide ((unhide HW5).below hb6)
    have HC6 := hide ((unhide HC5).below hb6)
    clear hb6 hg5 hc5
    go_wp2_with fail
    refine (unpack_pack p k cs bs w6 (unhide HLAY) h64 (unhide HOK) (unhide HIN)).mono ?_
    rintro e w7 ⟨⟨v7, rfl, ho7⟩, hb7⟩
    obtain ⟨a7, cap7, rfl, -, -⟩ := ownsRow_slice ho7
    obtain ⟨g7, hg7, hc7⟩ := colAt_rowE ho7
    have HB7 := hide ((unhide HB6).trans (hb7.mono (unhide HB6).size))
    have HW7 := hide ((unhide HW6).below hb7)
    have HL7 := hide hc7
    have HG7 := hide hg7
    clear ho7 hb7 hc7 hg7
    go_wp2_with fail
    refine (unpack_pack p k cs bs w7 (unhide HLAY) h64 (unhide HOK) (unhide HIN)).mono ?_
    rintro e w8 ⟨⟨v8, rfl, ho8⟩, hb8⟩
    obtain ⟨a8, cap8, rfl, ha8, -⟩ := ownsRow_slice ho8
    have HO8 := hide ho8
    have HB8 := hide hb8
    clear ho8 hb8
    go_wp2
    go_loopw [17] (fun c wr => ∃ i : Nat, i ≤ cs.length ∧ c = .int .i64 i ∧ Hid (∃ ds : List Cl, wr.ownsRow w7.heap.size 37 3 (.slice a8 cs.length cap8) cs.length (cellsL ds)) ∧ Hid (Below w7.heap.size w7 wr)) (fun c _ => cs.length - (intOf c).toNat)
    case atStart => exact ⟨0, Nat.zero_le _, rfl, hide ⟨cs, unhide HO8⟩, HB8⟩
    case round =>
      obtain ⟨i, hi', rfl, HD, HBW⟩ := hrel
      obtain ⟨ds, hds⟩ := unhide HD
      have hdl : ds.length = cs.length := by have := hds.1; rw [cellsL_len] at this; omega
      by_cases hlt : i < cs.length
      · have hlt' : (i : Int) < (cs.length : Int) := by omega
        obtain ⟨g8, rfl⟩ := ha8 (by omega)
        obtain ⟨d, hdi⟩ : ∃ d, ds[i]? = some d := ⟨ds[i]'(by omega), List.getElem?_eq_getElem _⟩
        obtain ⟨c0, c1, c2⟩ := colAt_own hds i d hdi
        rw [Nat.zero_add] at c0 c1 c2
        have f0 := hds.frozenAt (i * 3)
        have f1 := hds.frozenAt (i * 3 + 1)
        have f2 := hds.frozenAt (i * 3 + 2)
        have hg8 := (hds.lt g8 rfl).1
        have HDS := hide hds
        have HDI := hide hdi
        clear hds hdi hdl HD
        go_wp2
        go_roundw
        case rel =>
          have h := ((((unhide HDS).stored (i * 3) (.bool false)).1.stored (i * 3 + 1) (.int .i64 0)).1.stored (i * 3 + 2) (.string ByteArray.empty)).1
          rw [cellsL_set3 ds i d ⟨false, 0, ByteArray.empty⟩ (unhide HDI)] at h
          exact ⟨i + 1, by omega, by go_num, hide ⟨_, h⟩, hide ((((unhide HBW).setCell hg8 _).setCell hg8 _).setCell hg8 _)⟩
        case measure => simp [intOf]; omega
      · clear hds hdl HD
        have HB9 := hide ((unhide HB7).trans ((unhide HBW).mono (unhide HB7).size))
        have HW9 := hide ((unhide HW7).below (unhide HBW))
        have HL9 := hide ((unhide HL7).below (unhide HBW))
        go_wp2_with fail
        refine (most_any p k cs a2 g2 0 cap2 wr (unhide HG2) (unhide HW9) h64 (unhide HF)).mono ?_
        rintro e w10 ⟨rfl, hb10⟩
        have HB10 := hide ((unhide HB9).trans (hb10.mono (unhide HB9).size))
        have HW10 := hide ((unhide HW9).below hb10)
        have HL10 := hide ((unhide HL9).below hb10)
        clear hb10
        generalize mostOf p k cs = mo at *
        go_wp2_with fail
        refine (num_any _ _).mono ?_
        rintro e w' ⟨rfl, rfl⟩
        go_wp2_with fail
        refine (cells_any cs a7 g7 0 cap7 w10 (unhide HG7) (unhide HL10) hlen).mono ?_
        rintro e w11 ⟨v11, rfl, ho11, hb11⟩
        obtain ⟨a11, cap11, rfl, -, -⟩ := ownsRow_slice ho11
        obtain ⟨g11, hg11, hc11⟩ := colAt_rowE ho11
        have HB11 := hide ((unhide HB10).trans (hb11.mono (unhide HB10).size))
        have HW11 := hide ((unhide HW10).below hb11)
        clear ho11 hb11
        go_wp2_with fail
        refine (same_any cs a11 a2 g11 0 cap11 g2 0 cap2 w11 hg11 hc11 (unhide HG2) (unhide HW11) hlen).mono ?_
        rintro e w12 ⟨rfl, hb12⟩
        have HB12 := hide ((unhide HB11).trans (hb12.mono (unhide HB11).size))
        clear hb12 hg11 hc11
        by_cases hmo : mo < 0
        · go_wp2
          go_ret
          exact ⟨rfl, unhide HB12⟩
        · have hmo' : 0 ≤ mo := by omega
          have hle : ((strOf bs).size : Int) ≤ mo := (unhide HM).resolve_left hmo
          go_wp2
          go_ret
          exact ⟨by simp, unhide HB12⟩
end Go.Proofs.Ytgoihalolhmmdaa
