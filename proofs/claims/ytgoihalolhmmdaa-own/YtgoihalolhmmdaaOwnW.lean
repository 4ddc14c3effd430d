import Derived.Test.YtgoihalolhmmdaaRound
import Derived.Test.YtgoihalolhmmdaaCopy2
import Derived.Test.YtgoihalolhmmdaaSame
import Derived.Test.YtgoihalolhmmdaaFits
import Derived.Test.YtgoihalolhmmdaaLawU
namespace Go.Proofs.Ytgoihalolhmmdaa
open Go.RowKit

theorem colAt_rowE {w : World} {base n : Nat} {e : TypeId} {a : Option Addr} {cap : Nat} {cs : List Cl} (h : w.ownsRow base e 3 (.slice a n cap) n (cellsL cs)) : ∃ g, (0 < cs.length → a = some ⟨g, 0, none⟩) ∧ ColAt w g 0 cs := by
  have hl : cs.length = n := by have := h.1; rw [cellsL_len] at this; omega
  by_cases hn : 0 < n
  · obtain ⟨a', cap', hv, hg, _⟩ := ownsRow_slice h
    obtain ⟨g, rfl⟩ := hg hn
    simp only [Value.slice.injEq] at hv
    obtain ⟨rfl, -, rfl⟩ := hv
    exact ⟨g, fun _ => rfl, colAt_own h⟩
  · refine ⟨0, fun h => by omega, fun i c hc => ?_⟩
    have := (List.getElem?_eq_some_iff.1 hc).1
    omega

theorem cellsL_set_n (ds : List Cl) (i : Nat) (d : Cl) (x : Int) (h : ds[i]? = some d) : (cellsL ds).set (i * 3 + 1) (.int .i64 x) = cellsL (ds.set i ⟨d.null, x, d.s⟩) := by
  induction ds generalizing i with
  | nil => simp at h
  | cons a r ih =>
    have e : cellsL (a :: r) = [.bool a.null, .int .i64 a.n, .string a.s] ++ cellsL r := rfl
    cases i with
    | zero => simp at h; subst h; rw [e]; rfl
    | succ i =>
      rw [e, List.set_append_right _ _ (by simp; omega), show (i + 1) * 3 + 1 - [Value.bool a.null, .int .i64 a.n, .string a.s].length = i * 3 + 1 by simp; omega, ih i (by simpa using h)]
      rfl

/-- What Pack answers, whatever it is handed. -/
def PackRes (p k : Int) (cs : List Cl) (e : Ending) : Prop :=
  (packErr p k cs ≠ 0 ∧ e = .returned (.tuple #[.string ByteArray.empty, .int .i64 (packErr p k cs)])) ∨
  (packErr p k cs = 0 ∧ cs.length ≤ 64 ∧ packOk p k cs = true ∧ ∃ bs, Lays bs (encPack p k cs) ∧ e = .returned (.tuple #[.string (strOf bs), .int .i64 0]))
theorem pack_any (p k : Int) (cs : List Cl) (a : Option Addr) (b off cap : Nat) (w : World) (ha : 0 < cs.length → a = some ⟨b, off, none⟩) (hc : ColAt w b off cs) (hcap : cs.length ≤ cap) (hlen : cs.length * 32 ≤ 140737488351232)
    (hin : ∀ c ∈ cs, inInt c.n) (hs : ∀ c ∈ cs, c.s.size ≤ 140737488351232) :
    Calls Try.prog 8 #[.int .i64 p, .int .i64 k, .slice a cs.length cap] w fun e w' => PackRes p k cs e ∧ Below w.heap.size w w' := by
  by_cases h64 : cs.length ≤ 64
  · cases hok : packOk p k cs
    · have e : packErr p k cs = 7 := by unfold packErr; rw [if_neg (by omega), hok]; rfl
      refine (pack_type p k cs a b off cap w ha hc h64 hs hok).mono ?_
      rintro x w1 ⟨rfl, h1⟩
      exact ⟨.inl ⟨by omega, by rw [e]⟩, h1⟩
    · have e : packErr p k cs = 0 := by unfold packErr; rw [if_neg (by omega), hok]; rfl
      have hok' := hok
      unfold packOk at hok'
      simp only [Bool.and_eq_true, decide_eq_true_eq] at hok'
      refine (pack_good p k cs a b off cap w ha hc hcap h64 hin hs hok'.1.1 hok'.1.2 hok'.2.1.1 hok'.2.1.2 hok'.2.2).mono ?_
      rintro x w1 ⟨⟨bs, h1, rfl⟩, h2⟩
      exact ⟨.inr ⟨e, h64, hok, bs, h1, rfl⟩, h2⟩
  · have e : packErr p k cs = 8 := by unfold packErr; rw [if_pos (by omega)]
    refine (pack_full p k cs.length a cap w (by omega) (by omega)).mono ?_
    rintro x w1 ⟨rfl, rfl⟩
    exact ⟨.inl ⟨by omega, by rw [e]⟩, Below.refl _ _⟩

/-- What Unpack answers to a text of Pack's. -/
theorem unpack_pack (p k : Int) (cs : List Cl) (bs : List Nat) (w : World) (hlay : Lays bs (encPack p k cs)) (hlen : cs.length ≤ 64) (hok : packOk p k cs = true) (hin : ∀ c ∈ cs, inInt c.n) :
    Calls Try.prog 12 #[.string (strOf bs)] w fun e w' => (∃ v, e = .returned (.tuple #[.int .i64 k, v, .int .i64 0]) ∧ w'.ownsRow w.heap.size 37 3 v cs.length (cellsL cs)) ∧ Below w.heap.size w w' := by
  unfold packOk at hok
  simp only [Bool.and_eq_true, decide_eq_true_eq] at hok
  obtain ⟨e1, e2, e3, e4, hg⟩ := pack_round hlay hok.1.1 hok.1.2 hok.2.1.1 hok.2.1.2 hlen hin hok.2.2
  have hsz : (strOf bs).size ≤ 140737488351232 := by
    rw [strOf_size, hlay.len]
    have h1 : (encPack p k cs).length ≤ 24 + 20000 := by
      have hm : ∀ c ∈ cs, Mild c := fun c h => fits_mild (okB_fits (hin c h) (List.all_eq_true.1 hok.2.2 c h))
      unfold encPack body
      simp only [List.length_append, bitsOf_length]
      have g1 := encRuns_le k cs hm
      have g2 := encPlain_le k cs hm
      have g3 := encPlain_le k (ents cs) (fun c h => hm c (mem_ents h))
      have g4 := ents_len cs
      have g5 := encPlaces_len (ents cs) cs
      have g6 := pw_le (ents cs).length (by omega)
      have g7 : cs.length * pw (ents cs).length ≤ 64 * 8 := Nat.mul_le_mul hlen g6
      have hnin := numsOf_in hin
      have g8 := bitLen_le64 (span_lt hnin)
      have g9 := encBitCells_le (cs.any fun c => c.null) k (leastOf (numsOf cs)) (bitLen (spanOf (numsOf cs))) cs g8 (fun c h => (hm c h).2)
      have g10 := bitLen_le64 (foldN_lt (leastOf_in hnin))
      split
      · omega
      · split
        · unfold encDict; simp only [List.length_append, bitsOf_length]; omega
        · split
          · unfold encBits
            simp only [List.length_append, List.length_cons, List.length_nil]
            have g11 : (if k = 1 then ([] : List Bool) else encNum (leastOf (numsOf cs)) ++ bitsOf (bitLen (spanOf (numsOf cs))) 7).length ≤ 100 := by
              split
              · simp
              · rw [List.length_append, encNum_length, bitsOf_length]; omega
            omega
          · omega
    omega
  refine (unpack_any (strOf bs) w hsz).mono ?_
  rintro e w1 ⟨h1, h2⟩
  refine ⟨?_, h2⟩
  rcases h1 with ⟨_, v, rfl, ho⟩ | ⟨hn, _⟩
  · rw [e1, e2, e3, e4] at ho
    exact ⟨v, by rw [e2], ho⟩
  · exact absurd hg hn
theorem strOf_ne (p k : Int) (cs : List Cl) (bs : List Nat) (hlay : Lays bs (encPack p k cs)) : (strOf bs).toList.isEmpty = false := by
  rw [ByteArray.toList_eq]
  have h := hlay.len
  unfold encPack at h
  simp only [List.length_append, bitsOf_length] at h
  have hl : (strOf bs).data.toList.length = bs.length := by rw [size_list, strOf_size]
  cases hx : (strOf bs).data.toList with
  | nil => rw [hx] at hl; simp at hl; omega
  | cons a r => rfl

set_option maxHeartbeats 3200000 in
set_option maxRecDepth 100000 in
theorem own_walk (p k : Int) (cs : List Cl) (a : Option Addr) (b off cap : Nat) (w : World) (ha : 0 < cs.length → a = some ⟨b, off, none⟩) (hc : ColAt w b off cs) (hcap : cs.length ≤ cap) (hlen : cs.length * 32 ≤ 140737488351232)
    (hin : ∀ c ∈ cs, inInt c.n) (hs : ∀ c ∈ cs, c.s.size ≤ 140737488351232) :
    Calls Try.prog 5 #[.int .i64 p, .int .i64 k, .slice a cs.length cap] w fun e w' => e = .returned (.bool true) ∧ Below w.heap.size w w' := by
  obtain ⟨i0, hi, hz0, hz1, hz2⟩ := info_parts Try.info37
  have HC := hide hc
  have HAA := hide ha
  have HIN := hide hin
  have HS := hide hs
  clear hc ha hin hs
  go_enter Try.func5, Try.ntmps5
  go_wp2_with fail
  refine (copied_any cs a b off cap w (unhide HAA) (unhide HC) hlen).mono ?_
  rintro e w1 ⟨v1, rfl, ho1, hb1⟩
  obtain ⟨a1, cap1, rfl, -, -⟩ := ownsRow_slice ho1
  obtain ⟨g1, hg1, hc1⟩ := colAt_rowE ho1
  have HB1 := hide hb1
  clear ho1
  go_wp2_with fail
  refine (cells_any cs a1 g1 0 cap1 w1 hg1 hc1 hlen).mono ?_
  rintro e w2 ⟨v2, rfl, ho2, hb2⟩
  obtain ⟨a2, cap2, rfl, -, -⟩ := ownsRow_slice ho2
  obtain ⟨g2, hg2, hc2⟩ := colAt_rowE ho2
  have HB2 := hide ((unhide HB1).trans (hb2.mono (unhide HB1).size))
  have HW2 := hide hc2
  have HG2 := hide hg2
  clear ho2 hb1 hb2 hg1 hc1 hc2 hg2
  go_wp2_with fail
  refine (pack_any p k cs a b off cap w2 (unhide HAA) ((unhide HC).below (unhide HB2)) hcap hlen (unhide HIN) (unhide HS)).mono ?_
  rintro e w3 ⟨hres, hb3⟩
  have HB3 := hide ((unhide HB2).trans (hb3.mono (unhide HB2).size))
  have HW3 := hide ((unhide HW2).below hb3)
  clear hb3
  rcases hres with ⟨hne, rfl⟩ | ⟨he0, h64, hok, bs, hlay, rfl⟩
  · have hne' : (packErr p k cs != 0) = true := by simp [hne]
    have HP := hide (packable_any p k cs a2 g2 0 cap2 w3 (unhide HG2) (unhide HW3) hlen (unhide HS))
    generalize packErr p k cs = pe at *
    clear hne
    go_wp2_with fail
    refine (num_any _ _).mono ?_
    rintro e w4 ⟨rfl, rfl⟩
    go_wp2_with fail
    refine (unhide HP).mono ?_
    rintro e w4 ⟨rfl, h4⟩
    have HB4 := hide ((unhide HB3).trans (h4.mono (unhide HB3).size))
    clear h4
    go_wp2_with (go_at_call 10; refine (num_any _ _).mono ?_; rintro e w' ⟨rfl, rfl⟩)
    go_ret
    exact ⟨rfl, unhide HB4⟩
  · have HP := hide (packable_any p k cs a2 g2 0 cap2 w3 (unhide HG2) (unhide HW3) hlen (unhide HS))
    rw [he0] at HP
    have HLAY := hide hlay
    have hemp := strOf_ne p k cs bs hlay
    have HOK := hide hok
    clear he0 hlay hok
    go_wp2_with fail
    refine (num_any _ _).mono ?_
    rintro e w4 ⟨rfl, rfl⟩
    go_wp2_with fail
    refine (unhide HP).mono ?_
    rintro e w4 ⟨rfl, h4⟩
    have HB4 := hide ((unhide HB3).trans (h4.mono (unhide HB3).size))
    have HW4 := hide ((unhide HW3).below h4)
    have HC4 := hide ((unhide HC).below (unhide HB4))
    clear h4
    go_wp2_with fail
    refine (num_any _ _).mono ?_
    rintro e w5 ⟨rfl, rfl⟩
    go_wp2_with fail
    refine (unpack_pack p k cs bs w4 (unhide HLAY) h64 (unhide HOK) (unhide HIN)).mono ?_
    rintro e w5 ⟨⟨v3, rfl, ho3⟩, hb5⟩
    obtain ⟨a3, cap3, rfl, ha3, -⟩ := ownsRow_slice ho3
    have HO3 := hide ho3
    have HB5 := hide hb5
    clear ho3 hb5
    go_wp2
    go_loopw [13] (fun c wr => ∃ i : Nat, i ≤ cs.length ∧ c = .int .i64 i ∧ Hid (∃ ds : List Cl, wr.ownsRow w4.heap.size 37 3 (.slice a3 cs.length cap3) cs.length (cellsL ds)) ∧ Hid (Below w4.heap.size w4 wr)) (fun c _ => cs.length - (intOf c).toNat)
    case atStart => exact ⟨0, Nat.zero_le _, rfl, hide ⟨cs, unhide HO3⟩, HB5⟩
    case round =>
      obtain ⟨i, hi', rfl, HD, HBW⟩ := hrel
      obtain ⟨ds, hds⟩ := unhide HD
      have hdl : ds.length = cs.length := by have := hds.1; rw [cellsL_len] at this; omega
      by_cases hlt : i < cs.length
      · have hlt' : (i : Int) < (cs.length : Int) := by omega
        obtain ⟨g3, rfl⟩ := ha3 (by omega)
        obtain ⟨d, hdi⟩ : ∃ d, ds[i]? = some d := ⟨ds[i]'(by omega), List.getElem?_eq_getElem _⟩
        obtain ⟨c0, c1, c2⟩ := colAt_own hds i d hdi
        rw [Nat.zero_add] at c0 c1 c2
        have f1 := hds.frozenAt (i * 3 + 1)
        have hst := fun x => (hds.stored (i * 3 + 1) (.int .i64 x)).1
        have hcs := fun x => cellsL_set_n ds i d x hdi
        have hg3 := (hds.lt g3 rfl).1
        have HST := hide hst
        have HCS := hide hcs
        clear hds hdi hst hcs hdl HD
        go_wp2
        go_roundw
        case rel =>
          have h := unhide HST (wrap64 (d.n + 1))
          rw [unhide HCS] at h
          exact ⟨i + 1, by omega, by go_num, hide ⟨_, h⟩, hide ((unhide HBW).setCell hg3 _)⟩
        case measure => simp [intOf]; omega
      · have hds' := hide hds
        have hws := (unhide HBW).size
        clear hds hdl HD
        go_wp2_with (at_builtin; refine wpList_append_own _ rfl _ _ 22 rfl w4.heap.size 37 i0 _ 3 32 Try.underlying22 hi hz0 hz1 hz2 rfl (by decide) _ _ _ rfl ((unhide hds').alloc _) ⟨wr.heap.size, 0, none⟩ 1 1 [.bool true, .int .i64 0, .string ByteArray.empty] rfl rfl ?c1 ?c2 ?c3 ?c4 ?c5 ?_)
        case c1 => exact new3 wr ⟨true, 0, ByteArray.empty⟩ 37
        case c2 => exact one3 ⟨true, 0, ByteArray.empty⟩
        case c3 => unfold maxLen; omega
        case c4 => omega
        case c5 => simp; omega
        intro v4 w6 ho6 hg6 _
        obtain ⟨a4, cap4, rfl, -, -⟩ := ownsRow_slice ho6
        have HB6 := hide (((unhide HBW).alloc hws (.cells #[.bool true, .int .i64 0, .string ByteArray.empty] 37)).grown hg6 (by simp; omega) (fun g hg => ((unhide hds').lt g hg).1))
        clear ho6 hg6 hds'
        go_wp2_with fail
        refine (unpack_pack p k cs bs w6 (unhide HLAY) h64 (unhide HOK) (unhide HIN)).mono ?_
        rintro e w7 ⟨⟨v5, rfl, ho7⟩, hb7⟩
        obtain ⟨a5, cap5, rfl, -, -⟩ := ownsRow_slice ho7
        obtain ⟨g5, hg5, hc5⟩ := colAt_rowE ho7
        have HB7 := hide ((unhide HB6).trans (hb7.mono (unhide HB6).size))
        clear ho7 hb7
        go_wp2_with fail
        refine (cells_any cs a5 g5 0 cap5 w7 hg5 hc5 hlen).mono ?_
        rintro e w8 ⟨v6, rfl, ho8, hb8⟩
        obtain ⟨a6, cap6, rfl, -, -⟩ := ownsRow_slice ho8
        obtain ⟨g6, hg6', hc6⟩ := colAt_rowE ho8
        have HB8 := hide ((unhide HB7).trans (hb8.mono (unhide HB7).size))
        clear ho8 hb8 hg5 hc5
        go_wp2_with fail
        refine (same_any cs a6 a2 g6 0 cap6 g2 0 cap2 w8 hg6' hc6 (unhide HG2) ((unhide HW4).below (unhide HB8)) hlen).mono ?_
        rintro e w9 ⟨rfl, hb9⟩
        have HB9 := hide ((unhide HB8).trans (hb9.mono (unhide HB8).size))
        clear hb9 hg6' hc6
        go_wp2_with fail
        refine (cells_any cs a b off cap w9 (unhide HAA) ((unhide HC4).below (unhide HB9)) hlen).mono ?_
        rintro e w10 ⟨v7, rfl, ho10, hb10⟩
        obtain ⟨a7, cap7, rfl, -, -⟩ := ownsRow_slice ho10
        obtain ⟨g7, hg7, hc7⟩ := colAt_rowE ho10
        have HB10 := hide ((unhide HB9).trans (hb10.mono (unhide HB9).size))
        clear ho10 hb10
        go_wp2_with fail
        refine (same_any cs a7 a2 g7 0 cap7 g2 0 cap2 w10 hg7 hc7 (unhide HG2) ((unhide HW4).below (unhide HB10)) hlen).mono ?_
        rintro e w11 ⟨rfl, hb11⟩
        have HB11 := hide ((unhide HB4).trans (((unhide HB10).trans (hb11.mono (unhide HB10).size)).mono (unhide HB4).size))
        clear hb11 hg7 hc7
        go_wp2
        go_ret
        exact ⟨by simp, unhide HB11⟩

end Go.Proofs.Ytgoihalolhmmdaa
