import Derived.Test.YtgoihalolhmmdaaRunsW
namespace Go.Proofs.Ytgoihalolhmmdaa
open Go.RowKit

theorem encRuns_le (k : Int) (cs : List Cl) (h : ∀ c ∈ cs, Mild c) : (encRuns k cs).length ≤ 176 * cs.length := by
  suffices H : ∀ n, ∀ cs : List Cl, cs.length = n → (∀ c ∈ cs, Mild c) → (encRuns k cs).length ≤ 176 * cs.length from H _ cs rfl h
  intro n
  induction n using Nat.strongRecOn with
  | _ n ih =>
    intro cs hn h
    cases cs with
    | nil => simp [encRuns, encRunsF]
    | cons c r =>
      have hp := fr_pos (cs := c :: r) (by simp)
      have hl := fr_le (c :: r)
      have h1 := encCell_le k c (h c (by simp)).1
      have h2 := (h c (by simp)).2
      have h3 := ih ((c :: r).drop (fr (c :: r))).length (by rw [List.length_drop, ← hn]; omega) _ rfl (fun d hd => h d (List.mem_of_mem_drop hd))
      rw [encRuns_cons]
      simp only [List.length_append, bitsOf_length]
      rw [List.length_drop] at h3
      omega

set_option maxHeartbeats 800000 in
set_option maxRecDepth 100000 in
theorem runsWrite_any (K : Nat → Prop) (p : Nat) (l : List Bool) (k : Int) (cs : List Cl) (a : Option Addr) (b off cap : Nat) (w : World) (hw : Writer K w p l)
    (ha : 0 < cs.length → a = some ⟨b, off, none⟩) (hc : ColAt w b off cs) (hK : 0 < cs.length → K b) (hok : ∀ c ∈ cs, Mild c) (hlen : cs.length ≤ 64) (hcap : cs.length ≤ cap) (hb : l.length ≤ 1000) :
    Calls Try.prog 47 #[.agg #[], .pointer (some ⟨p, 0, none⟩), .int .i64 k, .slice a cs.length cap] w fun e w' => e = .returned (.tuple #[]) ∧ Writer K w' p (l ++ encRuns k cs) ∧ Keeps K w w' := by
  have HC := hide hc
  have HO := hide hok
  have hle := encRuns_le k cs hok
  clear hc hok
  go_enter Try.func47, Try.ntmps47
  go_wp2
  go_loopw [3] (fun cv wr => ∃ (n m cap' : Nat) (a' : Option Addr) (x : List Bool), Hid (n + m = cs.length) ∧ cv = .slice a' m cap' ∧ m ≤ cap' ∧ (0 < m → a' = some ⟨b, off + n * 3, none⟩) ∧ Hid (x ++ encRuns k (cs.drop n) = encRuns k cs) ∧ Hid (Writer K wr p (l ++ x)) ∧ Hid (Keeps K w wr))
    (fun cv _ => lenOf cv)
  case atStart => exact ⟨0, cs.length, cap, a, [], hide (by omega), rfl, hcap, by simpa using ha, by simp [Hid], by simpa [Hid] using hw.alloc _, (Keeps.refl K w).alloc hw.old _⟩
  case round =>
    obtain ⟨n, m, cap', a', x, HNM, rfl, hmc, ha', HX, HW, HK⟩ := hrel
    have hnm1 : n + m ≤ cs.length := by have := unhide HNM; omega
    have hnm2 : cs.length ≤ n + m := by have := unhide HNM; omega
    have hxl : x.length ≤ 11264 := by
      have h1 := congrArg List.length (unhide HX)
      rw [List.length_append] at h1
      omega
    clear hw
    by_cases hm : 0 < m
    · have hm' : (0 : Int) < (m : Int) := by omega
      obtain rfl := ha' hm
      have hkb := hK (by omega)
      have hcd := ((unhide HC).kept (unhide HK) hkb).drop n
      have hdl : (cs.drop n).length = m := by rw [List.length_drop]; omega
      obtain ⟨c, r, hcr⟩ : ∃ c r, cs.drop n = c :: r := by
        cases h : cs.drop n with
        | nil => rw [h] at hdl; simp at hdl; omega
        | cons c r => exact ⟨c, r, rfl⟩
      have hfp := fr_pos (cs := cs.drop n) (by omega)
      have hfl := fr_le (cs.drop n)
      have hcall := hide (firstRun_any (cs.drop n) (some ⟨b, off + n * 3, none⟩) b (off + n * 3) cap' wr (fun _ => rfl) hcd (by omega))
      rw [hdl] at hcall hfl
      obtain ⟨f, hf⟩ : ∃ f, f = fr (cs.drop n) := ⟨_, rfl⟩
      rw [← hf] at hcall hfp hfl
      have HF := hide hf
      have HD := hide hcr
      have HCD := hide hcd
      clear ha' hcd hdl hf hcr ha hK
      go_wp2_with fail
      refine (unhide hcall).mono ?_
      rintro e w1 ⟨rfl, h1⟩
      have HB := hide h1
      clear h1 hcall
      go_wp2_with fail
      have hg1 := grownBy_of_below (unhide HB)
      have hw1 := (unhide HW).of_keeps hg1
      have hk1 := (unhide HK).trans (Keeps.of_grown hg1 (unhide HW).old)
      refine (put_int K p _ _ _ _ hw1 (by omega) (by omega) (by omega) (by rw [show Int.toNat 8 = 8 from rfl, List.length_append]; omega)).mono ?_
      rintro e w2 ⟨rfl, h2, h3⟩
      have hk2 := hk1.trans h3
      obtain ⟨c0, c1, c2⟩ := ((unhide HC).kept hk2 hkb).drop n 0 c (by rw [unhide HD]; rfl)
      rw [Nat.zero_mul, Nat.add_zero] at c0 c1 c2
      have hm2 := unhide HO c (List.mem_of_mem_drop (by rw [unhide HD]; exact List.mem_cons_self))
      have H2 := hide h2
      have HK2 := hide hk2
      have HM := hide hm2
      clear hg1 hw1 hk1 h2 h3 hk2 hm2
      go_wp2_with fail
      refine (putCell_any K p _ k c _ (unhide H2) (unhide HM).1 (by have := (unhide HM).2; omega) (by simp only [List.length_append, bitsOf_length]; rw [show Int.toNat 8 = 8 from rfl]; omega)).mono ?_
      rintro e w3 ⟨rfl, h4, h5⟩
      have H4 := hide h4
      have HK3 := hide ((unhide HK2).trans h5)
      clear h4 h5 c0 c1 c2
      have hf' : (f : Int) ≤ (m : Int) := by omega
      go_wp2
      go_roundw
      case rel =>
        refine ⟨n + f, m - f, cap' - f, _, x ++ bitsOf ((f : Int) - 1).toNat 8 ++ encCell k c, hide (by omega), rfl, by omega, ?_, ?_, ?_, HK3⟩
        · intro hmf
          rw [if_neg (by omega)]
          congr 2
          omega
        · have hx := unhide HX
          rw [unhide HD, encRuns_cons, ← unhide HD, ← unhide HF, List.drop_drop] at hx
          show _ = _
          rw [← hx, show ((f : Int) - 1).toNat = f - 1 by omega]
          simp only [List.append_assoc]
        · have h4 := unhide H4
          show Writer _ _ _ _
          simpa only [List.append_assoc, show Int.toNat 8 = 8 from rfl] using h4
      case measure => show m - f < m; omega
    · obtain rfl : m = 0 := by omega
      go_wp2
      go_end0
      refine ⟨rfl, ?_, unhide HK⟩
      have hx := unhide HX
      rw [List.drop_eq_nil_of_le (by omega)] at hx
      have : encRuns k [] = [] := rfl
      rw [this, List.append_nil] at hx
      rw [← hx]
      exact unhide HW

end Go.Proofs.Ytgoihalolhmmdaa
