import Derived.Test.YtgoihalolhmmdaaKinds2
namespace Go.Proofs.Ytgoihalolhmmdaa
open Go.RowKit

def small (c : Cl) : Bool := !c.null && decide (0 ≤ c.n) && decide (c.n ≤ 15)
def mostOf (p k : Int) (cs : List Cl) : Int :=
  if p = 1 ∧ (ents cs).length ≤ 1 then 32 else if p = 2 ∧ (ents cs).length ≤ 2 then 64 else if p ≠ 3 ∨ k ≠ 0 then -1 else if cs.all small then 48 else -1

theorem fr_all (c : Cl) (r : List Cl) (h : ∀ d ∈ r, d = c) : fr (c :: r) = (c :: r).length := by
  show ((c :: r).takeWhile fun d => d.beq c).length = _
  have e : (c :: r).takeWhile (fun d => d.beq c) = c :: r := by
    have hall : ∀ l : List Cl, (∀ d ∈ l, d = c) → l.takeWhile (fun d => d.beq c) = l := by
      intro l
      induction l with
      | nil => intro _; rfl
      | cons d l ih =>
        intro hl
        rw [List.takeWhile_cons, (Cl.beq_iff d c).2 (hl d (by simp)), if_pos rfl, ih (fun x hx => hl x (by simp [hx]))]
    exact hall _ (fun d hd => by
      rcases List.mem_cons.1 hd with rfl | hd
      · rfl
      · exact h d hd)
  rw [e]

theorem runs_small (k : Int) (cs : List Cl) (hm : ∀ c ∈ cs, Mild c) (he : (ents cs).length ≤ 1) : (encRuns k cs).length ≤ 176 := by
  cases cs with
  | nil => simp [encRuns, encRunsF]
  | cons c r =>
    have hc := (known_iff _ _).1 (known_ents (cs := c :: r) (c := c) (by simp))
    have hr : ∀ d ∈ r, d = c := by
      intro d hd
      have h2 := (known_iff _ _).1 (known_ents (cs := c :: r) (c := d) (by simp [hd]))
      cases hx : ents (c :: r) with
      | nil => rw [hx] at hc; simp at hc
      | cons e t =>
        rw [hx] at he hc h2
        have : t = [] := List.eq_nil_of_length_eq_zero (by simp at he; simpa using he)
        subst this
        simp at hc h2
        rw [hc, h2]
    rw [encRuns_cons, fr_all c r hr, List.drop_of_length_le (Nat.le_refl _)]
    have h1 := encCell_le k c (hm c (by simp)).1
    have h2 := (hm c (by simp)).2
    have h3 : (encRuns k []).length = 0 := rfl
    simp only [List.length_append, bitsOf_length, h3]
    omega

theorem dict_small (k : Int) (cs : List Cl) (hm : ∀ c ∈ cs, Mild c) (hl : cs.length ≤ 64) (he : (ents cs).length ≤ 2) : (encDict k cs).length ≤ 408 := by
  have g3 := encPlain_le k (ents cs) (fun c h => hm c (mem_ents h))
  have g5 := encPlaces_len (ents cs) cs
  have g6 : pw (ents cs).length ≤ 1 := bitLen_le _ 1 (by omega)
  have g7 : cs.length * pw (ents cs).length ≤ 64 * 1 := Nat.mul_le_mul hl g6
  unfold encDict
  simp only [List.length_append, bitsOf_length]
  omega

theorem small_nums {cs : List Cl} (h : cs.all small = true) : ∀ x ∈ numsOf cs, 0 ≤ x ∧ x ≤ 15 := by
  intro x hx
  simp only [numsOf, List.mem_map, List.mem_filter] at hx
  obtain ⟨c, ⟨hc, _⟩, rfl⟩ := hx
  have := List.all_eq_true.1 h c hc
  simp only [small, Bool.and_eq_true, decide_eq_true_eq] at this
  exact ⟨this.1.2, this.2⟩
theorem foldl_min_band (r : List Int) : ∀ a, 0 ≤ a ∧ a ≤ 15 → (∀ x ∈ r, 0 ≤ x ∧ x ≤ 15) → 0 ≤ r.foldl min a ∧ r.foldl min a ≤ 15 := by
  induction r with
  | nil => intro a h _; exact h
  | cons b r ih =>
    intro a h hr
    have hb := hr b (by simp)
    exact ih _ (by omega) (fun x hx => hr x (by simp [hx]))
theorem foldl_max_band (r : List Int) : ∀ a, 0 ≤ a ∧ a ≤ 15 → (∀ x ∈ r, 0 ≤ x ∧ x ≤ 15) → 0 ≤ r.foldl max a ∧ r.foldl max a ≤ 15 := by
  induction r with
  | nil => intro a h _; exact h
  | cons b r ih =>
    intro a h hr
    have hb := hr b (by simp)
    exact ih _ (by omega) (fun x hx => hr x (by simp [hx]))
theorem small_cells (nulls : Bool) (least : Int) (width : Nat) (cs : List Cl) (hn : nulls = false) : (encBitCells nulls 0 least width cs).length ≤ width * cs.length := by
  subst hn
  induction cs with
  | nil => simp [encBitCells]
  | cons c r ih =>
    have e : encBitCells false 0 least width (c :: r) = encBitCell false 0 least width c ++ encBitCells false 0 least width r := rfl
    have h1 : (encBitCell false 0 least width c).length ≤ width := by
      unfold encBitCell
      simp only [Bool.false_eq_true, if_false, List.nil_append]
      split
      · simp
      · rw [if_neg (by omega), bitsOf_length]; omega
    rw [e, List.length_append, List.length_cons, Nat.mul_succ]
    omega
theorem bits_small (cs : List Cl) (hl : cs.length ≤ 64) (h : cs.all small = true) : (encBits 0 cs).length ≤ 277 := by
  have hnn : (cs.any fun c => c.null) = false := by
    rw [List.any_eq_false]
    intro c hc
    have := List.all_eq_true.1 h c hc
    simp only [small, Bool.and_eq_true, decide_eq_true_eq] at this
    simpa using this.1.1
  have hns := small_nums h
  have hle : 0 ≤ leastOf (numsOf cs) ∧ leastOf (numsOf cs) ≤ 15 := by
    cases hx : numsOf cs with
    | nil => simp [leastOf]
    | cons n r => rw [hx] at hns; exact foldl_min_band r n (hns n (by simp)) (fun x hx => hns x (by simp [hx]))
  have hge : 0 ≤ greatOf (numsOf cs) ∧ greatOf (numsOf cs) ≤ 15 := by
    cases hx : numsOf cs with
    | nil => simp [greatOf]
    | cons n r => rw [hx] at hns; exact foldl_max_band r n (hns n (by simp)) (fun x hx => hns x (by simp [hx]))
  have hw : bitLen (spanOf (numsOf cs)) ≤ 4 := bitLen_le _ 4 (by unfold spanOf; omega)
  have hb : bitLen (foldN (leastOf (numsOf cs))) ≤ 5 := bitLen_le _ 5 (by unfold foldN; rw [if_neg (by omega)]; omega)
  have hc := small_cells (cs.any fun c => c.null) (leastOf (numsOf cs)) (bitLen (spanOf (numsOf cs))) cs hnn
  have hd : bitLen (spanOf (numsOf cs)) * cs.length ≤ 4 * 64 := Nat.mul_le_mul hw hl
  unfold encBits
  rw [if_neg (by omega)]
  simp only [List.length_append, List.length_cons, List.length_nil, encNum_length, bitsOf_length]
  omega

theorem most_holds (p k : Int) (cs : List Cl) (bs : List Nat) (hlay : Lays bs (encPack p k cs)) (hm : ∀ c ∈ cs, Mild c) (hl : cs.length ≤ 64) : mostOf p k cs < 0 ∨ ((strOf bs).size : Int) ≤ mostOf p k cs := by
  have hb := hlay.len
  unfold encPack at hb
  simp only [List.length_append, bitsOf_length] at hb
  rw [strOf_size]
  unfold mostOf
  split
  · rename_i h
    have := runs_small k cs hm h.2
    have e : body p k cs = encRuns k cs := by unfold body; rw [if_pos h.1]
    rw [e] at hb
    right; omega
  · split
    · rename_i _ h
      have := dict_small k cs hm hl h.2
      have e : body p k cs = encDict k cs := by unfold body; rw [if_neg (by omega), if_pos h.1]
      rw [e] at hb
      right; omega
    · split
      · left; omega
      · split
        · rename_i _ _ h1 h
          have hp : p = 3 := by omega
          have hk : k = 0 := by omega
          subst hp hk
          have := bits_small cs hl h
          have e : body 3 0 cs = encBits 0 cs := rfl
          rw [e] at hb
          right; omega
        · left; omega

set_option maxHeartbeats 800000 in
set_option maxRecDepth 100000 in
theorem most_any (p k : Int) (cs : List Cl) (a : Option Addr) (b off cap : Nat) (w : World) (ha : 0 < cs.length → a = some ⟨b, off, none⟩) (hc : ColAt w b off cs) (hlen : cs.length ≤ 64) (hf : ∀ c ∈ cs, FitsK k c) :
    Calls Try.prog 13 #[.int .i64 p, .int .i64 k, .slice a cs.length cap] w fun e w' => e = .returned (.int .i64 (mostOf p k cs)) ∧ Below w.heap.size w w' := by
  have HC := hide hc
  have HF := hide hf
  have HAA := hide ha
  have HM : Hid (∀ x, x = (if p = 1 ∧ (ents cs).length ≤ 1 then 32 else if p = 2 ∧ (ents cs).length ≤ 2 then 64 else if p ≠ 3 ∨ k ≠ 0 then -1 else if cs.all small then 48 else -1) → x = mostOf p k cs) := hide fun x h => h
  clear hc hf ha
  go_enter Try.func13, Try.ntmps13
  go_wp2_with fail
  refine (kinds_any k cs a b off cap w (unhide HAA) (unhide HC) hlen (unhide HF)).mono ?_
  rintro e w1 ⟨rfl, hb1⟩
  have HB1 := hide hb1
  have HC1 := hide ((unhide HC).below hb1)
  clear hb1
  have hel := ents_len cs
  generalize (ents cs).length = en at *
  by_cases h1 : p = 1 ∧ en ≤ 1
  · obtain ⟨rfl, h1⟩ := h1
    have h1' : (en : Int) ≤ 1 := by omega
    go_wp2
    go_ret
    exact ⟨congrArg Ending.returned (congrArg (Value.int .i64) (unhide HM _ (by simp [h1]))), unhide HB1⟩
  · by_cases h2 : p = 2 ∧ en ≤ 2
    · obtain ⟨rfl, h2⟩ := h2
      have h2' : (en : Int) ≤ 2 := by omega
      clear h1
      go_wp2
      go_ret
      exact ⟨congrArg Ending.returned (congrArg (Value.int .i64) (unhide HM _ (by simp [h2]))), unhide HB1⟩
    · have HM2 : Hid (∀ x, x = (if p ≠ 3 ∨ k ≠ 0 then -1 else if cs.all small then 48 else -1) → x = mostOf p k cs) := hide fun x h => unhide HM x (by rw [if_neg h1, if_neg h2]; exact h)
      clear HM
      by_cases h3 : p = 3 ∧ k = 0
      · obtain ⟨rfl, rfl⟩ := h3
        have HM3 : Hid (∀ x, x = (if cs.all small then 48 else -1) → x = mostOf 3 0 cs) := hide fun x h => unhide HM2 x (by rw [if_neg (by omega)]; exact h)
        clear HM2 h1 h2
        go_wp2_with fail
        go_loopw [8] (fun c wr => ∃ i : Nat, i ≤ cs.length ∧ c = .int .i64 i ∧ Hid (∀ j d, j < i → cs[j]? = some d → small d = true) ∧ Hid (Below w.heap.size w wr)) (fun c _ => cs.length - (intOf c).toNat)
        case atStart => exact ⟨0, Nat.zero_le _, rfl, hide (fun j d h => by omega), HB1⟩
        case round =>
          obtain ⟨i, hi', rfl, HA, HB⟩ := hrel
          by_cases hlt : i < cs.length
          · have hlt' : (i : Int) < (cs.length : Int) := by omega
            obtain ⟨c, hci⟩ : ∃ c, cs[i]? = some c := ⟨cs[i], List.getElem?_eq_getElem hlt⟩
            obtain rfl := unhide HAA (by omega)
            obtain ⟨c0, c1, c2⟩ := (unhide HC).below (unhide HB) i c hci
            have HI := hide hci
            clear hci
            cases hsm : small c
            · have HN : Hid (cs.all small = false) := hide (List.all_eq_false.2 ⟨c, List.mem_of_getElem? (unhide HI), by simp [hsm]⟩)
              unfold small at hsm
              cases hnl : c.null
              · rw [hnl] at c0
                by_cases hn0 : c.n < 0
                · clear hsm
                  go_wp2
                  go_ret
                  exact ⟨congrArg Ending.returned (congrArg (Value.int .i64) (unhide HM3 _ (by rw [unhide HN]; rfl))), unhide HB⟩
                · have hn0' : 0 ≤ c.n := by omega
                  have hn15 : 15 < c.n := by
                    rw [hnl, decide_eq_true hn0'] at hsm
                    simp at hsm
                    exact hsm
                  clear hsm hn0
                  go_wp2
                  go_ret
                  exact ⟨congrArg Ending.returned (congrArg (Value.int .i64) (unhide HM3 _ (by rw [unhide HN]; rfl))), unhide HB⟩
              · rw [hnl] at c0
                clear hsm
                go_wp2
                go_ret
                exact ⟨congrArg Ending.returned (congrArg (Value.int .i64) (unhide HM3 _ (by rw [unhide HN]; rfl))), unhide HB⟩
            · have HS := hide hsm
              simp only [small, Bool.and_eq_true, decide_eq_true_eq, Bool.not_eq_true'] at hsm
              obtain ⟨⟨h1, h2⟩, h3⟩ := hsm
              rw [h1] at c0
              go_wp2
              go_roundw
              case rel =>
                refine ⟨i + 1, by omega, by go_num, hide ?_, HB⟩
                intro j d hj hd
                by_cases hji : j = i
                · subst hji; rw [Option.some.inj (hd.symm.trans (unhide HI))]; exact unhide HS
                · exact unhide HA j d (by omega) hd
              case measure => simp [intOf]; omega
          · go_wp2
            go_ret
            refine ⟨congrArg Ending.returned (congrArg (Value.int .i64) (unhide HM3 _ ?_)), unhide HB⟩
            have : cs.all small = true := List.all_eq_true.2 (fun c hc => by
              obtain ⟨j, hj⟩ := List.getElem?_of_mem hc
              exact unhide HA j c (by have := (List.getElem?_eq_some_iff.1 hj).1; omega) hj)
            rw [this]
            rfl
      · have HM3 : Hid (-1 = mostOf p k cs) := hide (unhide HM2 _ (by rw [if_pos (by omega)]))
        clear HM2
        have h1' : ¬ (p = 1 ∧ (en : Int) ≤ 1) := by omega
        have h2' : ¬ (p = 2 ∧ (en : Int) ≤ 2) := by omega
        clear h1 h2
        go_wp2
        all_goals (go_ret; exact ⟨congrArg Ending.returned (congrArg (Value.int .i64) (unhide HM3)), unhide HB1⟩)

end Go.Proofs.Ytgoihalolhmmdaa
