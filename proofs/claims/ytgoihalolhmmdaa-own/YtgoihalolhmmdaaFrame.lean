import Derived.Test.YtgoihalolhmmdaaPred
namespace Go.Proofs.Ytgoihalolhmmdaa
open Go.RowKit

/-- The numbers of the cells that are not null. -/
def numsOf (cs : List Cl) : List Int := (cs.filter fun c => !c.null).map Cl.n
def leastOf : List Int → Int
  | [] => 0
  | n :: r => r.foldl min n
def greatOf : List Int → Int
  | [] => 0
  | n :: r => r.foldl max n
theorem numsOf_null (cs : List Cl) (c : Cl) (h : c.null = true) : numsOf (cs ++ [c]) = numsOf cs := by simp [numsOf, h]
theorem numsOf_num (cs : List Cl) (c : Cl) (h : c.null = false) : numsOf (cs ++ [c]) = numsOf cs ++ [c.n] := by simp [numsOf, h]
theorem leastOf_snoc (l : List Int) (n : Int) (h : l ≠ []) : leastOf (l ++ [n]) = min (leastOf l) n := by
  cases l with
  | nil => exact absurd rfl h
  | cons a r => simp [leastOf]
theorem greatOf_snoc (l : List Int) (n : Int) (h : l ≠ []) : greatOf (l ++ [n]) = max (greatOf l) n := by
  cases l with
  | nil => exact absurd rfl h
  | cons a r => simp [greatOf]
theorem foldl_min_le (r : List Int) : ∀ a, r.foldl min a ≤ a ∧ ∀ x ∈ r, r.foldl min a ≤ x := by
  induction r with
  | nil => intro a; simp
  | cons b r ih =>
    intro a
    have h := ih (min a b)
    simp only [List.foldl_cons]
    refine ⟨by omega, fun x hx => ?_⟩
    rcases List.mem_cons.1 hx with rfl | hx
    · omega
    · exact h.2 x hx
theorem foldl_max_ge (r : List Int) : ∀ a, a ≤ r.foldl max a ∧ ∀ x ∈ r, x ≤ r.foldl max a := by
  induction r with
  | nil => intro a; simp
  | cons b r ih =>
    intro a
    have h := ih (max a b)
    simp only [List.foldl_cons]
    refine ⟨by omega, fun x hx => ?_⟩
    rcases List.mem_cons.1 hx with rfl | hx
    · omega
    · exact h.2 x hx
theorem leastOf_le {l : List Int} {x : Int} (h : x ∈ l) : leastOf l ≤ x := by
  cases l with
  | nil => simp at h
  | cons a r =>
    have := foldl_min_le r a
    rcases List.mem_cons.1 h with rfl | h
    · exact this.1
    · exact this.2 x h
theorem le_greatOf {l : List Int} {x : Int} (h : x ∈ l) : x ≤ greatOf l := by
  cases l with
  | nil => simp at h
  | cons a r =>
    have := foldl_max_ge r a
    rcases List.mem_cons.1 h with rfl | h
    · exact this.1
    · exact this.2 x h
theorem foldl_min_in (r : List Int) : ∀ a, inInt a → (∀ x ∈ r, inInt x) → inInt (r.foldl min a) := by
  induction r with
  | nil => intro a h _; exact h
  | cons b r ih =>
    intro a h hr
    simp only [List.foldl_cons]
    have hb := hr b (by simp)
    exact ih _ (by unfold inInt at *; omega) (fun x hx => hr x (by simp [hx]))
theorem foldl_max_in (r : List Int) : ∀ a, inInt a → (∀ x ∈ r, inInt x) → inInt (r.foldl max a) := by
  induction r with
  | nil => intro a h _; exact h
  | cons b r ih =>
    intro a h hr
    simp only [List.foldl_cons]
    have hb := hr b (by simp)
    exact ih _ (by unfold inInt at *; omega) (fun x hx => hr x (by simp [hx]))
theorem leastOf_in {l : List Int} (h : ∀ x ∈ l, inInt x) : inInt (leastOf l) := by
  cases l with
  | nil => simp [leastOf, inInt]
  | cons a r => exact foldl_min_in r a (h a (by simp)) (fun x hx => h x (by simp [hx]))
theorem greatOf_in {l : List Int} (h : ∀ x ∈ l, inInt x) : inInt (greatOf l) := by
  cases l with
  | nil => simp [greatOf, inInt]
  | cons a r => exact foldl_max_in r a (h a (by simp)) (fun x hx => h x (by simp [hx]))
theorem least_le_great (l : List Int) : leastOf l ≤ greatOf l := by
  cases l with
  | nil => simp [leastOf, greatOf]
  | cons a r => have h1 := foldl_min_le r a; have h2 := foldl_max_ge r a; simp only [leastOf, greatOf]; omega
theorem numsOf_in {cs : List Cl} (h : ∀ c ∈ cs, inInt c.n) : ∀ x ∈ numsOf cs, inInt x := by
  intro x hx
  simp only [numsOf, List.mem_map, List.mem_filter] at hx
  obtain ⟨c, ⟨hc, _⟩, rfl⟩ := hx
  exact h c hc
def spanOf (l : List Int) : Nat := (greatOf l - leastOf l).toNat
theorem span_lt {l : List Int} (h : ∀ x ∈ l, inInt x) : spanOf l < 18446744073709551616 := by
  have h1 := leastOf_in h
  have h2 := greatOf_in h
  unfold inInt at h1 h2
  unfold spanOf
  omega
theorem wrap_sub {a b : Int} (ha : inInt a) (hb : inInt b) (h : b ≤ a) : IntKind.u64.wrap (IntKind.u64.wrap a - IntKind.u64.wrap b) = (((a - b).toNat : Nat) : Int) := by
  unfold inInt at ha hb
  rw [IntKind.wrap_u64, IntKind.wrap_u64, IntKind.wrap_u64]
  omega

set_option maxHeartbeats 400000 in
set_option maxRecDepth 100000 in
theorem frameOf_any (cs : List Cl) (a : Option Addr) (b off cap : Nat) (w : World) (ha : 0 < cs.length → a = some ⟨b, off, none⟩) (hc : ColAt w b off cs) (hlen : cs.length ≤ 1000) (hok : ∀ c ∈ cs, inInt c.n) :
    Calls Try.prog 65 #[.slice a cs.length cap] w fun e w' => e = .returned (.tuple #[.int .i64 (leastOf (numsOf cs)), .int .i64 (bitLen (spanOf (numsOf cs)) : Int)]) ∧ Below w.heap.size w w' := by
  have HC := hide hc
  have HO := hide hok
  clear hc hok
  go_enter Try.func65, Try.ntmps65
  go_wp2
  go_loopw [2, 4, 5, 10] (fun lv gv fv c wr => ∃ i : Nat, i ≤ cs.length ∧ c = .int .i64 i ∧ lv = .int .i64 (leastOf (numsOf (cs.take i))) ∧ gv = .int .i64 (greatOf (numsOf (cs.take i))) ∧ fv = .bool (!(numsOf (cs.take i)).isEmpty) ∧ Hid (Below w.heap.size w wr)) (fun _ _ _ c _ => cs.length - (intOf c).toNat)
  case atStart => exact ⟨0, Nat.zero_le _, rfl, rfl, rfl, rfl, hide (Below.refl _ _)⟩
  case round =>
    obtain ⟨i, hi, rfl, rfl, rfl, rfl, HB⟩ := hrel
    by_cases hlt : i < cs.length
    · have hlt' : (i : Int) < (cs.length : Int) := by omega
      obtain ⟨c, hci⟩ : ∃ c, cs[i]? = some c := ⟨cs[i], List.getElem?_eq_getElem hlt⟩
      obtain rfl := ha (by omega)
      obtain ⟨c0, c1, c2⟩ := (unhide HC) i c hci
      have hbw : b < w.heap.size := World.block_lt_of_cell? _ _ c0
      have hbw' : b < wr.heap.size := Nat.lt_of_lt_of_le hbw (unhide HB).size
      rw [← (unhide HB).cell (p := ⟨b, _, none⟩) hbw] at c0 c1 c2
      have HT := hide (take_succ_get hci)
      generalize cs.take i = pre at *
      clear hci ha
      cases hn : c.null
      · rw [hn] at c0
        have hnum := numsOf_num pre c hn
        generalize numsOf pre = l at *
        cases hl : l.isEmpty
        · have hne : l ≠ [] := by intro e; rw [e] at hl; simp at hl
          have HN := hide hnum
          have HNE := hide hne
          clear hnum hne
          go_wp2_with fail
          go_region
          go_wp2
          go_roundw
          case rel =>
            have e : numsOf (cs.take (i + 1)) = l ++ [c.n] := by rw [unhide HT, unhide HN]
            refine ⟨i + 1, by omega, by go_num, ?_, ?_, ?_, hide (((unhide HB).alloc (unhide HB).size _).drew)⟩
            · rw [e, leastOf_snoc _ _ (unhide HNE)]; exact congrArg _ (by split <;> omega)
            · rw [e, greatOf_snoc _ _ (unhide HNE)]; exact congrArg _ (by split <;> omega)
            · rw [e]; simp
          case measure => simp [intOf]; omega
        · have hne : l = [] := by simpa using hl
          subst hne
          have HN := hide hnum
          clear hnum
          go_wp2_with fail
          go_region
          go_wp2
          go_roundw
          case rel =>
            have e : numsOf (cs.take (i + 1)) = [c.n] := by rw [unhide HT, unhide HN]; rfl
            refine ⟨i + 1, by omega, by go_num, ?_, ?_, ?_, hide (((unhide HB).alloc (unhide HB).size _).drew)⟩
            · rw [e]; rfl
            · rw [e]; rfl
            · rw [e]; rfl
          case measure => simp [intOf]; omega
      · rw [hn] at c0
        have hnum := numsOf_null pre c hn
        generalize numsOf pre = l at *
        have HN := hide hnum
        clear hnum
        go_wp2
        go_roundw
        case rel =>
          have e : numsOf (cs.take (i + 1)) = l := by rw [unhide HT, unhide HN]
          refine ⟨i + 1, by omega, by go_num, by rw [e], by rw [e], by rw [e], hide ((unhide HB).alloc (unhide HB).size _)⟩
        case measure => simp [intOf]; omega
    · obtain rfl : i = cs.length := by omega
      have hnin := numsOf_in (unhide HO)
      have H1 := hide (wrap_sub (greatOf_in hnin) (leastOf_in hnin) (least_le_great _))
      have hsl := span_lt hnin
      have H2 := hide (show (greatOf (numsOf cs) - leastOf (numsOf cs)).toNat = spanOf (numsOf cs) from rfl)
      clear hnin
      go_wp2_with fail
      rw [unhide H1, unhide H2]
      generalize spanOf (numsOf cs) = sp at *
      refine (len64_any _ _ (by omega) (by omega)).mono ?_
      rintro e w1 ⟨rfl, rfl⟩
      rw [Int.toNat_natCast]
      go_wp2
      go_ret2
      exact ⟨by rw [show spanOf (numsOf cs) = sp from unhide H2]; rfl, unhide HB⟩

end Go.Proofs.Ytgoihalolhmmdaa
