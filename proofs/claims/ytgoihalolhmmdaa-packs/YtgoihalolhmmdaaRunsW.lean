import Derived.Test.YtgoihalolhmmdaaPlainW
namespace Go.Proofs.Ytgoihalolhmmdaa
open Go.RowKit

/-- '==' of two cells, as the program tells it. -/
def Cl.beq (a b : Cl) : Bool := a.null == b.null && a.n == b.n && a.s.toList == b.s.toList

set_option maxRecDepth 100000 in
theorem neq_cells (c d : Cl) (w : World) : (binOp .neq 37 (.agg #[.bool c.null, .int .i64 c.n, .string c.s]) (.agg #[.bool d.null, .int .i64 d.n, .string d.s])).run Try.prog w = .ok (.bool (!c.beq d)) w := by
  go_simp
  by_cases h1 : c.null = d.null <;> by_cases h2 : c.n = d.n <;> by_cases h3 : c.s.toList = d.s.toList <;> simp [Cl.beq, h1, h2, h3]

theorem Cl.beq_iff (a b : Cl) : a.beq b = true ↔ a = b := by
  constructor
  · intro h
    simp only [Cl.beq, Bool.and_eq_true, beq_iff_eq] at h
    have h3 : a.s = b.s := by
      have := h.2
      rw [ByteArray.toList_eq, ByteArray.toList_eq] at this
      cases ha : a.s; cases hb : b.s
      rw [ha, hb] at this
      congr 1
      exact Array.toList_inj.1 this
    exact Cl.ext' h.1.1 h.1.2 h3
  · rintro rfl; simp [Cl.beq]

theorem takeWhile_len {α : Type} {p : α → Bool} : ∀ (cs : List α) (i : Nat), i ≤ cs.length → (∀ j c, j < i → cs[j]? = some c → p c = true) → (∀ c, cs[i]? = some c → p c = false) → (cs.takeWhile p).length = i := by
  intro cs
  induction cs with
  | nil => intro i hi _ _; simp at hi; simp [hi]
  | cons c r ih =>
    intro i hi h1 h2
    cases i with
    | zero => rw [List.takeWhile_cons, h2 c (by simp)]; rfl
    | succ i =>
      rw [List.takeWhile_cons, h1 0 c (by omega) (by simp), if_pos rfl, List.length_cons]
      rw [ih i (by simpa using hi) (fun j d hj hd => h1 (j + 1) d (by omega) (by simpa using hd)) (fun d hd => h2 d (by simpa using hd))]

/-- How many cells at the head are the first one. -/
def fr (cs : List Cl) : Nat := match cs with | [] => 0 | c :: r => ((c :: r).takeWhile fun d => d.beq c).length

set_option maxHeartbeats 400000 in
set_option maxRecDepth 100000 in
theorem firstRun_any (cs : List Cl) (a : Option Addr) (b off cap : Nat) (w : World) (ha : 0 < cs.length → a = some ⟨b, off, none⟩) (hc : ColAt w b off cs) (hlen : cs.length ≤ 1000) :
    Calls Try.prog 49 #[.slice a cs.length cap] w fun e w' => e = .returned (.int .i64 (fr cs : Int)) ∧ Below w.heap.size w w' := by
  have HC := hide hc
  clear hc
  go_enter Try.func49, Try.ntmps49
  go_wp2
  go_loopw [7] (fun c wr => ∃ i : Nat, i ≤ cs.length ∧ c = .int .i64 i ∧ (∀ j c d, j < i → cs[j]? = some c → cs[0]? = some d → c.beq d = true) ∧ Below w.heap.size w wr) (fun c _ => cs.length - (intOf c).toNat)
  case atStart => exact ⟨0, Nat.zero_le _, rfl, fun j _ _ h => by omega, Below.refl _ _⟩
  case round =>
    obtain ⟨i, hi, rfl, hall, hbel⟩ := hrel
    have HA := hide hall
    clear hall
    by_cases hlt : i < cs.length
    · have hlt' : (i : Int) < (cs.length : Int) := by omega
      have hlt0 : (0 : Int) < (cs.length : Int) := by omega
      have hlt00 : 0 < cs.length := by omega
      obtain ⟨c, hci⟩ : ∃ c, cs[i]? = some c := ⟨cs[i], List.getElem?_eq_getElem hlt⟩
      obtain ⟨d, hdi⟩ : ∃ d, cs[0]? = some d := ⟨cs[0], List.getElem?_eq_getElem (by omega)⟩
      obtain rfl := ha (by omega)
      obtain ⟨c0, c1, c2⟩ := (unhide HC) i c hci
      obtain ⟨d0, d1, d2⟩ := (unhide HC) 0 d hdi
      rw [Nat.zero_mul, Nat.add_zero] at d0 d1 d2
      have hbw : b < w.heap.size := World.block_lt_of_cell? _ _ c0
      have hbw' : b < wr.heap.size := Nat.lt_of_lt_of_le hbw hbel.size
      rw [← hbel.cell (p := ⟨b, _, none⟩) hbw] at c0 c1 c2 d0 d1 d2
      have HB := hide hbel
      have HI := hide hci
      have HD := hide hdi
      clear hci hdi ha hbel
      by_cases hq : c.beq d = true
      · have hne : ∀ u, (binOp .neq 37 (.agg #[.bool c.null, .int .i64 c.n, .string c.s]) (.agg #[.bool d.null, .int .i64 d.n, .string d.s])).run Try.prog u = .ok (.bool false) u := fun u => by rw [neq_cells, hq]; rfl
        have HQ := hide hq
        clear hq
        go_wp2_with fail
        go_region
        go_wp2
        go_roundw
        case rel =>
          refine ⟨i + 1, by omega, by go_num, ?_, ((unhide HB).alloc (unhide HB).size _).drew⟩
          intro j c' d' hj hc' hd'
          by_cases hji : j = i
          · subst hji
            have e1 : c' = c := Option.some.inj (hc'.symm.trans (unhide HI))
            have e2 : d' = d := Option.some.inj (hd'.symm.trans (unhide HD))
            rw [e1, e2]; exact unhide HQ
          · exact unhide HA j c' d' (by omega) hc' hd'
        case measure => simp [intOf]; omega
      · have hq' : c.beq d = false := by simpa using hq
        have hne : ∀ u, (binOp .neq 37 (.agg #[.bool c.null, .int .i64 c.n, .string c.s]) (.agg #[.bool d.null, .int .i64 d.n, .string d.s])).run Try.prog u = .ok (.bool true) u := fun u => by rw [neq_cells, hq']; rfl
        have HQ := hide hq'
        clear hq hq'
        go_wp2_with fail
        go_region
        go_wp2
        go_ret
        refine ⟨congrArg Ending.returned (congrArg (Value.int IntKind.i64) ?_), ((unhide HB).alloc (unhide HB).size _).drew⟩
        cases hcs : cs with
        | nil => subst hcs; simp at hlt
        | cons c' r =>
          subst hcs
          have hd' : c' = d := by simpa using unhide HD
          subst hd'
          have := takeWhile_len (p := fun e => e.beq c') (c' :: r) i (by omega) (fun j e hj he => unhide HA j e c' hj he (by simp)) (fun e he => by
            have : e = c := Option.some.inj (he.symm.trans (unhide HI))
            rw [this]; exact unhide HQ)
          rw [fr, this]
    · obtain rfl : i = cs.length := by omega
      have HB := hide hbel
      clear hbel
      go_wp2
      go_ret
      refine ⟨congrArg Ending.returned (congrArg (Value.int IntKind.i64) ?_), unhide HB⟩
      cases hcs : cs with
      | nil => simp [fr]
      | cons c r =>
        subst hcs
        have := takeWhile_len (p := fun d => d.beq c) (c :: r) (c :: r).length (Nat.le_refl _) (fun j d hj hd => unhide HA j d c hj hd (by simp)) (fun d hd => by simp at hd)
        rw [fr, this]

theorem fr_pos {cs : List Cl} (h : 0 < cs.length) : 0 < fr cs := by
  cases cs with
  | nil => simp at h
  | cons c r =>
    have : c.beq c = true := (Cl.beq_iff c c).2 rfl
    rw [fr, List.takeWhile_cons, this, if_pos rfl]; simp
theorem takeWhile_length_le {α : Type} (p : α → Bool) (cs : List α) : (cs.takeWhile p).length ≤ cs.length := by
  have := congrArg List.length (List.takeWhile_append_dropWhile (p := p) (l := cs))
  rw [List.length_append] at this
  omega
theorem fr_le (cs : List Cl) : fr cs ≤ cs.length := by
  cases cs with
  | nil => simp [fr]
  | cons c r => exact takeWhile_length_le _ _

/-- Runs; so many rounds at the most. -/
def encRunsF (k : Int) : Nat → List Cl → List Bool
  | 0, _ => []
  | _ + 1, [] => []
  | f + 1, c :: r => bitsOf (fr (c :: r) - 1) 8 ++ encCell k c ++ encRunsF k f ((c :: r).drop (fr (c :: r)))
def encRuns (k : Int) (cs : List Cl) : List Bool := encRunsF k cs.length cs

theorem encRunsF_more (k : Int) : ∀ (f : Nat) (cs : List Cl), cs.length ≤ f → encRunsF k f cs = encRuns k cs := by
  intro f
  induction f using Nat.strongRecOn with
  | _ f ih =>
    intro cs hf
    cases cs with
    | nil => cases f <;> rfl
    | cons c r =>
      cases f with
      | zero => simp at hf
      | succ f =>
        have hp := fr_pos (cs := c :: r) (by simp)
        have hl := fr_le (c :: r)
        show bitsOf (fr (c :: r) - 1) 8 ++ encCell k c ++ encRunsF k f ((c :: r).drop (fr (c :: r))) = bitsOf (fr (c :: r) - 1) 8 ++ encCell k c ++ encRunsF k r.length ((c :: r).drop (fr (c :: r)))
        rw [ih f (by omega) _ (by rw [List.length_drop]; simp at hf ⊢; omega)]
        by_cases hlt : r.length < f + 1
        · rw [ih r.length hlt _ (by rw [List.length_drop]; simp; omega)]
        · simp at hf; omega
theorem encRuns_cons (k : Int) (c : Cl) (r : List Cl) : encRuns k (c :: r) = bitsOf (fr (c :: r) - 1) 8 ++ encCell k c ++ encRuns k ((c :: r).drop (fr (c :: r))) := by
  have hp := fr_pos (cs := c :: r) (by simp)
  show bitsOf (fr (c :: r) - 1) 8 ++ encCell k c ++ encRunsF k r.length ((c :: r).drop (fr (c :: r))) = _
  rw [encRunsF_more k r.length _ (by rw [List.length_drop]; simp; omega)]

end Go.Proofs.Ytgoihalolhmmdaa
