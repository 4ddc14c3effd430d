import Derived.Test.YtgoihalolhmmdaaRunsW2
namespace Go.Proofs.Ytgoihalolhmmdaa
open Go.RowKit

def byteOk (b : UInt8) : Bool := decide (32 ≤ b.toNat) && decide (b.toNat ≤ 126) && decide (b.toNat ≠ 39)
def strOk (s : ByteArray) : Bool := decide (s.size ≤ 12) && s.data.toList.all byteOk

theorem strOk_bad (s : ByteArray) (i : Nat) (hi : i < s.size) (hb : byteOk s[i] = false) : strOk s = false := by
  have : s.data.toList.all byteOk = false := List.all_eq_false.2 ⟨s[i], by
    have h : s.data.toList[i]? = some s[i] := by
      rw [List.getElem?_eq_getElem (by rw [size_list]; exact hi)]; rfl
    exact List.mem_of_getElem? h, by simp [hb]⟩
  simp [strOk, this]
theorem byteOk_of {b : UInt8} (h1 : (32 : Int) ≤ (b.toNat : Int)) (h2 : (b.toNat : Int) ≤ 126) (h3 : ((b.toNat : Int) == 39) = false) : byteOk b = true := by
  have h3' := beq_eq_false_iff_ne.1 h3
  have : b.toNat ≠ 39 := by omega
  simp [byteOk, this]; omega
theorem byteOk_low {b : UInt8} (h1 : (b.toNat : Int) < 32) : byteOk b = false := by
  simp [byteOk]; intro h; omega
theorem byteOk_high {b : UInt8} (h1 : (126 : Int) < (b.toNat : Int)) : byteOk b = false := by
  have : ¬ b.toNat ≤ 126 := by omega
  simp [byteOk, this]
theorem byteOk_quote {b : UInt8} (h1 : ((b.toNat : Int) < 32 ∨ (126 : Int) < (b.toNat : Int)) ∨ ((b.toNat : Int) == 39) = true) : byteOk b = false := by
  rcases h1 with (h | h) | h
  · exact byteOk_low h
  · exact byteOk_high h
  · have : b.toNat = 39 := by have := beq_iff_eq.1 h; omega
    simp [byteOk, this]

set_option maxHeartbeats 400000 in
set_option maxRecDepth 100000 in
theorem isString_any (s : ByteArray) (w : World) (hs : s.size ≤ 140737488351232) :
    Calls Try.prog 27 #[.string s] w fun e w' => e = .returned (.bool (strOk s)) ∧ w = w' := by
  by_cases h12 : s.size ≤ 12
  · have h12' : (s.size : Int) ≤ 12 := by omega
    go_enter Try.func27, Try.ntmps27
    go_wp2
    go_loop [9] (fun c => ∃ i : Nat, i ≤ s.size ∧ c = .int .i64 i ∧ Hid ((s.data.toList.take i).all byteOk = true)) (fun c => s.size - (intOf c).toNat)
    case atStart => exact ⟨0, Nat.zero_le _, rfl, hide (by simp)⟩
    case round =>
      obtain ⟨i, hi, rfl, HA⟩ := hrel
      by_cases hlt : i < s.size
      · have hlt' : (i : Int) < (s.size : Int) := by omega
        go_wp2
        · have hq : ((s[i].toNat : Int) < 32 ∨ (126 : Int) < (s[i].toNat : Int)) ∨ ((s[i].toNat : Int) == 39) = true := by assumption
          go_ret
          exact ⟨congrArg Ending.returned (congrArg Value.bool (strOk_bad s i hlt (byteOk_quote hq)).symm), rfl⟩
        · have hq : ((32 : Int) ≤ (s[i].toNat : Int) ∧ (s[i].toNat : Int) ≤ 126) ∧ ((s[i].toNat : Int) == 39) = false := by assumption
          go_round
          case rel =>
            refine ⟨i + 1, by omega, by go_num, hide ?_⟩
            rw [List.take_succ_eq_append_getElem (by rw [size_list]; exact hlt), List.all_append, unhide HA]
            have := byteOk_of hq.1.1 hq.1.2 hq.2
            simp only [List.all_cons, List.all_nil, Bool.and_true, Bool.true_and]
            exact this
          case measure => simp [intOf]; omega
        · have hq : (126 : Int) < (s[i].toNat : Int) := by assumption
          go_ret
          exact ⟨congrArg Ending.returned (congrArg Value.bool (strOk_bad s i hlt (byteOk_high hq)).symm), rfl⟩
        · have hq : (s[i].toNat : Int) < 32 := by assumption
          go_ret
          exact ⟨congrArg Ending.returned (congrArg Value.bool (strOk_bad s i hlt (byteOk_low hq)).symm), rfl⟩
      · go_wp2
        go_ret
        refine ⟨congrArg Ending.returned (congrArg Value.bool ?_), rfl⟩
        have := unhide HA
        rw [List.take_of_length_le (by rw [size_list]; omega)] at this
        simp [strOk, h12, this]
  · have h12' : (12 : Int) < (s.size : Int) := by omega
    go_enter Try.func27, Try.ntmps27
    go_wp2
    go_ret
    refine ⟨congrArg Ending.returned (congrArg Value.bool ?_), rfl⟩
    simp [strOk, h12]

def okB (k : Int) (c : Cl) : Bool :=
  if c.null then decide (c.n = 0) && c.s.toList.isEmpty else if k = 0 then c.s.toList.isEmpty else if k = 1 then decide (c.n = 0) && strOk c.s else if k = 2 then c.s.toList.isEmpty && (decide (c.n = 0) || decide (c.n = 1)) else false

theorem empty_list {s : ByteArray} (h : s.size = 0) : s = ByteArray.empty := by
  cases s with
  | mk d => congr 1; exact Array.eq_empty_of_size_eq_zero h

set_option maxHeartbeats 400000 in
set_option maxRecDepth 100000 in
theorem isOfKind_any (k : Int) (c : Cl) (w : World) (hs : c.s.size ≤ 140737488351232) :
    Calls Try.prog 24 #[.agg #[.bool c.null, .int .i64 c.n, .string c.s], .int .i64 k] w fun e w' => e = .returned (.bool (okB k c)) ∧ Below w.heap.size w w' := by
  obtain ⟨nl, n, s⟩ := c
  simp only at hs
  cases nl
  · go_enter Try.func24, Try.ntmps24
    go_wp2_with (go_at_call 27; refine (isString_any s _ hs).mono ?_; rintro e w' ⟨rfl, rfl⟩)
    all_goals (go_ret; refine ⟨congrArg Ending.returned (congrArg Value.bool ?_), (Below.refl _ _).alloc (Nat.le_refl _) _⟩)
    all_goals first
      | (simp_all [okB]; done)
      | (simp_all [okB]; rw [show (n == 0) = false from beq_eq_false_iff_ne.2 ‹_›, Bool.false_or]; rfl)
  · go_enter Try.func24, Try.ntmps24
    go_wp2
    all_goals (go_ret; refine ⟨congrArg Ending.returned (congrArg Value.bool ?_), (Below.refl _ _).alloc (Nat.le_refl _) _⟩)
    all_goals simp_all [okB]

set_option maxHeartbeats 400000 in
set_option maxRecDepth 100000 in
theorem isNull_any (c : Cl) (w : World) :
    Calls Try.prog 64 #[.agg #[.bool c.null, .int .i64 c.n, .string c.s]] w fun e w' => e = .returned (.bool c.null) ∧ Below w.heap.size w w' := by
  go_enter Try.func64, Try.ntmps64
  go_wp2
  go_ret
  exact ⟨rfl, (Below.refl _ _).alloc (Nat.le_refl _) _⟩

set_option maxHeartbeats 400000 in
set_option maxRecDepth 100000 in
theorem notOfKind_any (k : Int) (c : Cl) (q : Nat) (w : World) (hq : w.cell? ⟨q, 0, none⟩ = some (.int .i64 k)) (hs : c.s.size ≤ 140737488351232) :
    Calls Try.prog 23 #[.agg #[.bool c.null, .int .i64 c.n, .string c.s], .pointer (some ⟨q, 0, none⟩)] w fun e w' => e = .returned (.bool (!okB k c)) ∧ Below w.heap.size w w' := by
  have hqs : q < w.heap.size := World.block_lt_of_cell? _ _ hq
  go_enter Try.func23, Try.ntmps23
  go_wp2_with (go_at_call 24; refine (isOfKind_any k c _ hs).mono ?_; rintro e w' ⟨rfl, hb⟩)
  go_ret
  exact ⟨rfl, ((Below.refl _ _).alloc (Nat.le_refl _) _).trans (hb.mono (by simp))⟩

/-- The first place at which p holds; or -1. -/
def idxOf (p : Cl → Bool) (cs : List Cl) : Int := if cs.any p then (cs.findIdx p : Int) else -1

theorem idxOf_hit {p : Cl → Bool} {cs : List Cl} {i : Nat} {c : Cl} (h : ∀ j d, j < i → cs[j]? = some d → p d = false) (hc : cs[i]? = some c) (hp : p c = true) : idxOf p cs = (i : Int) := by
  have hl : i < cs.length := (List.getElem?_eq_some_iff.1 hc).1
  have ha : cs.any p = true := List.any_eq_true.2 ⟨c, List.mem_of_getElem? hc, hp⟩
  unfold idxOf
  rw [if_pos ha]
  have : cs.findIdx p = i := by
    rw [List.findIdx_eq hl]
    refine ⟨?_, fun j hj => ?_⟩
    · rw [List.getElem?_eq_getElem hl] at hc; rw [Option.some.inj hc]; exact hp
    · exact h j _ hj (List.getElem?_eq_getElem (by omega))
  rw [this]
theorem idxOf_miss {p : Cl → Bool} {cs : List Cl} (h : ∀ (j : Nat) (d : Cl), cs[j]? = some d → p d = false) : idxOf p cs = -1 := by
  unfold idxOf
  rw [if_neg]
  simp only [Bool.not_eq_true]
  rw [List.any_eq_false]
  intro x hx
  obtain ⟨j, hj⟩ := List.getElem?_of_mem hx
  simp [h j x hj]

set_option maxHeartbeats 400000 in
set_option maxRecDepth 100000 in
theorem indexNull_any (cs : List Cl) (a : Option Addr) (b off cap : Nat) (w : World) (ha : 0 < cs.length → a = some ⟨b, off, none⟩) (hc : ColAt w b off cs) (hlen : cs.length ≤ 1000) :
    Calls Try.prog 26 #[.slice a cs.length cap, .func (.func 64) #[] #[]] w fun e w' => e = .returned (.int .i64 (idxOf (fun c => c.null) cs)) ∧ Below w.heap.size w w' := by
  have HC := hide hc
  clear hc
  go_enter Try.func26, Try.ntmps26
  go_wp2
  go_loopw [8] (fun c wr => ∃ i : Nat, i ≤ cs.length ∧ c = .int .i64 i ∧ Below w.heap.size w wr ∧ Hid (∀ j d, j < i → cs[j]? = some d → d.null = false)) (fun c _ => cs.length - (intOf c).toNat)
  case atStart => exact ⟨0, Nat.zero_le _, rfl, Below.refl _ _, hide (fun j d h => by omega)⟩
  case round =>
    obtain ⟨i, hi, rfl, hbel, HA⟩ := hrel
    by_cases hlt : i < cs.length
    · have hlt' : (i : Int) < (cs.length : Int) := by omega
      obtain ⟨c, hci⟩ : ∃ c, cs[i]? = some c := ⟨cs[i], List.getElem?_eq_getElem hlt⟩
      obtain rfl := ha (by omega)
      obtain ⟨c0, c1, c2⟩ := (unhide HC) i c hci
      have hbw : b < w.heap.size := World.block_lt_of_cell? _ _ c0
      have hbw' : b < wr.heap.size := Nat.lt_of_lt_of_le hbw hbel.size
      rw [← hbel.cell (p := ⟨b, _, none⟩) hbw] at c0 c1 c2
      have HB := hide hbel
      have HI := hide hci
      clear hbel hci ha
      go_wp2_with fail
      refine (isNull_any c wr).mono ?_
      rintro e w1 ⟨rfl, h1⟩
      have HB1 := hide ((unhide HB).trans (h1.mono (unhide HB).size))
      clear h1 c0 c1 c2
      cases hp : c.null
      · have HP := hide hp
        clear hp
        go_wp2
        go_roundw
        case rel =>
          refine ⟨i + 1, by omega, by go_num, unhide HB1, hide ?_⟩
          intro j d hj hd
          by_cases hji : j = i
          · subst hji; rw [Option.some.inj (hd.symm.trans (unhide HI))]; exact unhide HP
          · exact unhide HA j d (by omega) hd
        case measure => simp [intOf]; omega
      · have HP := hide hp
        clear hp
        go_wp2
        go_ret
        exact ⟨congrArg Ending.returned (congrArg (Value.int IntKind.i64) (idxOf_hit (unhide HA) (unhide HI) (unhide HP)).symm), unhide HB1⟩
    · have HB := hide hbel
      clear hbel
      go_wp2
      go_ret
      exact ⟨congrArg Ending.returned (congrArg (Value.int IntKind.i64) (idxOf_miss (fun j d hd => unhide HA j d (by have := (List.getElem?_eq_some_iff.1 hd).1; omega) hd)).symm), unhide HB⟩

set_option maxHeartbeats 400000 in
set_option maxRecDepth 100000 in
theorem indexKind_any (k : Int) (q : Nat) (cs : List Cl) (a : Option Addr) (b off cap : Nat) (w : World) (ha : 0 < cs.length → a = some ⟨b, off, none⟩) (hc : ColAt w b off cs) (hlen : cs.length ≤ 1000)
    (hq : w.cell? ⟨q, 0, none⟩ = some (.int .i64 k)) (hs : ∀ c ∈ cs, c.s.size ≤ 140737488351232) :
    Calls Try.prog 26 #[.slice a cs.length cap, .func (.func 23) #[] #[.pointer (some ⟨q, 0, none⟩)]] w fun e w' => e = .returned (.int .i64 (idxOf (fun c => !okB k c) cs)) ∧ Below w.heap.size w w' := by
  have HC := hide hc
  have HQ := hide hq
  have HS := hide hs
  clear hc hq hs
  go_enter Try.func26, Try.ntmps26
  go_wp2
  go_loopw [8] (fun c wr => ∃ i : Nat, i ≤ cs.length ∧ c = .int .i64 i ∧ Below w.heap.size w wr ∧ Hid (∀ j d, j < i → cs[j]? = some d → (!okB k d) = false)) (fun c _ => cs.length - (intOf c).toNat)
  case atStart => exact ⟨0, Nat.zero_le _, rfl, Below.refl _ _, hide (fun j d h => by omega)⟩
  case round =>
    obtain ⟨i, hi, rfl, hbel, HA⟩ := hrel
    by_cases hlt : i < cs.length
    · have hlt' : (i : Int) < (cs.length : Int) := by omega
      obtain ⟨c, hci⟩ : ∃ c, cs[i]? = some c := ⟨cs[i], List.getElem?_eq_getElem hlt⟩
      obtain rfl := ha (by omega)
      obtain ⟨c0, c1, c2⟩ := (unhide HC) i c hci
      have hbw : b < w.heap.size := World.block_lt_of_cell? _ _ c0
      have hbw' : b < wr.heap.size := Nat.lt_of_lt_of_le hbw hbel.size
      rw [← hbel.cell (p := ⟨b, _, none⟩) hbw] at c0 c1 c2
      have HB := hide hbel
      have HI := hide hci
      clear hbel hci ha
      go_wp2_with fail
      refine (notOfKind_any k c q wr (((unhide HB).cell (p := ⟨q, 0, none⟩) (World.block_lt_of_cell? _ _ (unhide HQ))).trans (unhide HQ)) (unhide HS c (List.mem_of_getElem? (unhide HI)))).mono ?_
      rintro e w1 ⟨rfl, h1⟩
      have HB1 := hide ((unhide HB).trans (h1.mono (unhide HB).size))
      clear h1 c0 c1 c2
      cases hp : okB k c
      · have HP := hide hp
        clear hp
        go_wp2
        go_ret
        exact ⟨congrArg Ending.returned (congrArg (Value.int IntKind.i64) (idxOf_hit (unhide HA) (unhide HI) (by rw [unhide HP]; rfl)).symm), unhide HB1⟩
      · have HP := hide hp
        clear hp
        go_wp2
        go_roundw
        case rel =>
          refine ⟨i + 1, by omega, by go_num, unhide HB1, hide ?_⟩
          intro j d hj hd
          by_cases hji : j = i
          · subst hji; rw [Option.some.inj (hd.symm.trans (unhide HI)), unhide HP]; rfl
          · exact unhide HA j d (by omega) hd
        case measure => simp [intOf]; omega
    · have HB := hide hbel
      clear hbel
      go_wp2
      go_ret
      exact ⟨congrArg Ending.returned (congrArg (Value.int IntKind.i64) (idxOf_miss (fun j d hd => unhide HA j d (by have := (List.getElem?_eq_some_iff.1 hd).1; omega) hd)).symm), unhide HB⟩

theorem idxOf_nonneg (p : Cl → Bool) (cs : List Cl) : decide (0 ≤ idxOf p cs) = cs.any p := by
  unfold idxOf
  cases h : cs.any p
  · simp
  · simp

set_option maxHeartbeats 400000 in
set_option maxRecDepth 100000 in
theorem anyNull_any (cs : List Cl) (a : Option Addr) (b off cap : Nat) (w : World) (ha : 0 < cs.length → a = some ⟨b, off, none⟩) (hc : ColAt w b off cs) (hlen : cs.length ≤ 1000) :
    Calls Try.prog 22 #[.slice a cs.length cap, .func (.func 64) #[] #[]] w fun e w' => e = .returned (.bool (cs.any fun c => c.null)) ∧ Below w.heap.size w w' := by
  have HH := hide (indexNull_any cs a b off cap w ha hc hlen)
  have HI := hide (idxOf_nonneg (fun c => c.null) cs)
  clear ha hc
  go_enter Try.func22, Try.ntmps22
  go_wp2_with fail
  refine (unhide HH).mono ?_
  rintro e w1 ⟨rfl, h1⟩
  generalize idxOf (fun c => c.null) cs = x at *
  go_wp2
  go_ret
  exact ⟨congrArg Ending.returned (congrArg Value.bool (unhide HI)), h1⟩

set_option maxHeartbeats 400000 in
set_option maxRecDepth 100000 in
theorem anyKind_any (k : Int) (q : Nat) (cs : List Cl) (a : Option Addr) (b off cap : Nat) (w : World) (ha : 0 < cs.length → a = some ⟨b, off, none⟩) (hc : ColAt w b off cs) (hlen : cs.length ≤ 1000)
    (hq : w.cell? ⟨q, 0, none⟩ = some (.int .i64 k)) (hs : ∀ c ∈ cs, c.s.size ≤ 140737488351232) :
    Calls Try.prog 22 #[.slice a cs.length cap, .func (.func 23) #[] #[.pointer (some ⟨q, 0, none⟩)]] w fun e w' => e = .returned (.bool (cs.any fun c => !okB k c)) ∧ Below w.heap.size w w' := by
  have HH := hide (indexKind_any k q cs a b off cap w ha hc hlen hq hs)
  have HI := hide (idxOf_nonneg (fun c => !okB k c) cs)
  clear ha hc hq hs
  go_enter Try.func22, Try.ntmps22
  go_wp2_with fail
  refine (unhide HH).mono ?_
  rintro e w1 ⟨rfl, h1⟩
  generalize idxOf (fun c => !okB k c) cs = x at *
  go_wp2
  go_ret
  exact ⟨congrArg Ending.returned (congrArg Value.bool (unhide HI)), h1⟩

set_option maxHeartbeats 400000 in
set_option maxRecDepth 100000 in
theorem allOfKind_any (k : Int) (cs : List Cl) (a : Option Addr) (b off cap : Nat) (w : World) (ha : 0 < cs.length → a = some ⟨b, off, none⟩) (hc : ColAt w b off cs) (hlen : cs.length ≤ 1000) (hs : ∀ c ∈ cs, c.s.size ≤ 140737488351232) :
    Calls Try.prog 16 #[.slice a cs.length cap, .int .i64 k] w fun e w' => e = .returned (.bool (cs.all (okB k))) ∧ Below w.heap.size w w' := by
  have hc1 : ColAt (w.alloc (.cells #[.int .i64 k] 30)) b off cs := by
    intro i c h
    obtain ⟨h1, h2, h3⟩ := hc i c h
    have hb : b < w.heap.size := World.block_lt_of_cell? _ _ h1
    exact ⟨(World.cell?_alloc_past _ _ _ hb).trans h1, (World.cell?_alloc_past _ _ _ hb).trans h2, (World.cell?_alloc_past _ _ _ hb).trans h3⟩
  have HH := hide (anyKind_any k w.heap.size cs a b off cap (w.alloc (.cells #[.int .i64 k] 30)) ha hc1 hlen (by rw [World.cell?_alloc_at _ _ _ _ rfl]; rfl) hs)
  have HA : Hid (cs.all (okB k) = !(cs.any fun c => !okB k c)) := hide (by rw [List.all_eq_not_any_not])
  clear ha hc hc1 hs
  go_enter Try.func16, Try.ntmps16
  go_wp2_with fail
  refine (unhide HH).mono ?_
  rintro e w1 ⟨rfl, h1⟩
  generalize (cs.any fun c => !okB k c) = x at *
  go_wp2
  go_ret
  exact ⟨congrArg Ending.returned (congrArg Value.bool (unhide HA).symm), ((Below.refl _ _).alloc (Nat.le_refl _) _).trans (h1.mono (by simp))⟩

/-- What the code calls a cell of kind k is one. -/
theorem okB_fits {k : Int} {c : Cl} (hn : inInt c.n) (h : okB k c = true) : FitsK k c := by
  have e0 : c.s.toList.isEmpty = true → c.s = ByteArray.empty := by
    intro h
    rw [ByteArray.toList_eq, List.isEmpty_iff] at h
    exact empty_list (by rw [← size_list, h]; rfl)
  refine ⟨hn, ?_⟩
  unfold okB at h
  split
  · rename_i h1
    rw [if_pos h1] at h
    simp only [Bool.and_eq_true, decide_eq_true_eq] at h
    exact ⟨h.1, e0 h.2⟩
  · rename_i h1
    rw [if_neg h1] at h
    split
    · rename_i h2; rw [if_pos h2] at h; exact e0 h
    · rename_i h2
      rw [if_neg h2] at h
      split
      · rename_i h3
        rw [if_pos h3] at h
        simp only [Bool.and_eq_true, decide_eq_true_eq, strOk] at h
        refine ⟨h.1, h.2.1, fun b hb => ?_⟩
        have := List.all_eq_true.1 h.2.2 b hb
        simp only [byteOk, Bool.and_eq_true, decide_eq_true_eq] at this
        exact ⟨this.1.1, this.1.2, this.2⟩
      · rename_i h3
        rw [if_neg h3] at h
        split
        · rename_i h4
          rw [if_pos h4] at h
          simp only [Bool.and_eq_true, Bool.or_eq_true, decide_eq_true_eq] at h
          exact ⟨e0 h.1, h.2⟩
        · rename_i h4
          rw [if_neg h4] at h
          cases h
theorem fits_mild {k : Int} {c : Cl} (h : FitsK k c) : Mild c := by
  refine ⟨h.1, ?_⟩
  have h2 := h.2
  have z : ByteArray.empty.size = 0 := rfl
  split at h2
  · rw [h2.2]; omega
  · split at h2
    · rw [h2]; omega
    · split at h2
      · exact h2.2.1
      · split at h2
        · rw [h2.1]; omega
        · exact h2.elim

end Go.Proofs.Ytgoihalolhmmdaa
