import Derived.Test.YtgoihalolhmmdaaBitsR
namespace Go.Proofs.Ytgoihalolhmmdaa
open Go.RowKit

def packOk (p k : Int) (cs : List Cl) : Bool := decide (0 ≤ p ∧ p ≤ 3) && (decide (0 ≤ k ∧ k ≤ 2) && cs.all (okB k))

set_option maxHeartbeats 400000 in
set_option maxRecDepth 100000 in
theorem pack_full (p k : Int) (n : Nat) (a : Option Addr) (cap : Nat) (w : World) (hn : 64 < n) (hn2 : n ≤ 140737488355328) :
    Calls Try.prog 8 #[.int .i64 p, .int .i64 k, .slice a n cap] w fun e w' => e = .returned (.tuple #[.string ByteArray.empty, .int .i64 8]) ∧ w = w' := by
  have hn' : (64 : Int) < (n : Int) := by omega
  go_enter Try.func8, Try.ntmps8
  go_wp2
  go_ret2
  exact ⟨rfl, rfl⟩

set_option maxHeartbeats 800000 in
set_option maxRecDepth 100000 in
theorem pack_type (p k : Int) (cs : List Cl) (a : Option Addr) (b off cap : Nat) (w : World) (ha : 0 < cs.length → a = some ⟨b, off, none⟩) (hc : ColAt w b off cs) (hlen : cs.length ≤ 64)
    (hs : ∀ c ∈ cs, c.s.size ≤ 140737488351232) (hbad : packOk p k cs = false) :
    Calls Try.prog 8 #[.int .i64 p, .int .i64 k, .slice a cs.length cap] w fun e w' => e = .returned (.tuple #[.string ByteArray.empty, .int .i64 7]) ∧ Below w.heap.size w w' := by
  have hlen' : (cs.length : Int) ≤ 64 := by omega
  have H1 := hide (allOfKind_any k cs a b off cap w ha hc (by omega) hs)
  have HP := hide (isPacking_any p w)
  have HKK := hide (isKind_any k w)
  have HB := hide hbad
  clear ha hc hs hbad
  go_enter Try.func8, Try.ntmps8
  go_wp2_with fail
  refine (unhide HP).mono ?_
  rintro e w1 ⟨rfl, rfl⟩
  cases hp : decide (0 ≤ p ∧ p ≤ 3)
  · clear hp
    go_wp2
    go_ret2
    exact ⟨rfl, Below.refl _ _⟩
  · have HPT := hide hp
    clear hp
    go_wp2_with fail
    refine (unhide HKK).mono ?_
    rintro e w1 ⟨rfl, rfl⟩
    cases hk : decide (0 ≤ k ∧ k ≤ 2)
    · clear hk
      go_wp2
      go_ret2
      exact ⟨rfl, Below.refl _ _⟩
    · have HKT := hide hk
      clear hk
      go_wp2_with fail
      refine (unhide H1).mono ?_
      rintro e w1 ⟨rfl, h1⟩
      have hall : cs.all (okB k) = false := by
        have := unhide HB
        unfold packOk at this
        rw [unhide HPT, unhide HKT] at this
        simpa using this
      rw [hall]
      clear hall
      go_wp2
      go_ret2
      exact ⟨rfl, h1⟩

/-- The column that a text is read as. -/
def decBody (s : ByteArray) (p k : Int) (u n : Nat) : List Cl := if p = 1 then decRuns s k u n else if p = 2 then decDict s k u n else if p = 3 then decBits s k u n else (decN s k u n).1

/-- A cell as the readers make them. -/
def Made (c : Cl) : Prop := inInt c.n ∧ c.s.size ≤ 1000
theorem made_zeroCl : Made zeroCl := ⟨by simp [zeroCl, inInt], by show (0 : Nat) ≤ 1000; omega⟩
theorem made_decCell (s : ByteArray) (k : Int) (u : Nat) : Made (decCell s k u).1 := by
  have h := rd_lt_pow s u 8
  have h2 : (2 : Nat) ^ 8 = 256 := by decide
  unfold decCell
  split
  · exact ⟨by simp [inInt], by show (0 : Nat) ≤ 1000; omega⟩
  · split
    · refine ⟨by simp [inInt], ?_⟩
      show (rdStr s (u + 8) 8 (rd s u 8 - 1)).toArray.size ≤ 1000
      rw [List.size_toArray, rdStr_length]; omega
    · exact ⟨unfoldN_int (by have := rd_lt s (u + 8) (rd s u 8 - 1); simpa using this), by show (0 : Nat) ≤ 1000; omega⟩
theorem made_decN (s : ByteArray) (k : Int) (u n : Nat) : ∀ c ∈ (decN s k u n).1, Made c := by
  induction n with
  | zero => intro c hc; simp [decN] at hc
  | succ n ih =>
    intro c hc
    simp only [decN, List.mem_append, List.mem_cons, List.not_mem_nil, or_false] at hc
    rcases hc with hc | hc
    · exact ih c hc
    · rw [hc]; exact made_decCell _ _ _
theorem made_decRunsF (s : ByteArray) (k : Int) (n : Nat) : ∀ (f : Nat) (l : List Cl) (u : Nat), (∀ c ∈ l, Made c) → ∀ c ∈ decRunsF s k n f l u, Made c := by
  intro f
  induction f with
  | zero => intro l u h; exact h
  | succ f ih =>
    intro l u h
    rw [decRunsF]
    split
    · apply ih
      intro c hc
      rcases List.mem_append.1 hc with hc | hc
      · exact h c hc
      · rw [List.eq_of_mem_replicate hc]; exact made_decCell _ _ _
    · exact h
theorem made_decPlaces (s : ByteArray) (es : List Cl) (wd u n : Nat) (h : ∀ c ∈ es, Made c) : ∀ c ∈ decPlaces s es wd u n, Made c := by
  induction n with
  | zero => intro c hc; simp [decPlaces] at hc
  | succ n ih =>
    intro c hc
    simp only [decPlaces, List.mem_append, List.mem_cons, List.not_mem_nil, or_false] at hc
    rcases hc with hc | hc
    · exact ih c hc
    · rw [hc]
      unfold atPlace
      rw [List.getD]
      cases hq : es[rd s (u + n * wd) wd]? with
      | none => exact made_zeroCl
      | some d => exact h d (List.mem_of_getElem? hq)
theorem made_decBitTail (s : ByteArray) (k least : Int) (width p : Nat) : Made (decBitTail s k least width p).1 := by
  have h := rd_lt_pow s p 4
  have h2 : (2 : Nat) ^ 4 = 16 := by decide
  unfold decBitTail
  split
  · refine ⟨by simp [inInt], ?_⟩
    show (rdStr s (p + 4) 7 (rd s p 4)).toArray.size ≤ 1000
    rw [List.size_toArray, rdStr_length]; omega
  · exact ⟨addW_in _ _, by show (0 : Nat) ≤ 1000; omega⟩
theorem made_decBitCell (s : ByteArray) (nulls : Bool) (k least : Int) (width p : Nat) : Made (decBitCell s nulls k least width p).1 := by
  unfold decBitCell
  split
  · split
    · exact ⟨by simp [inInt], by show (0 : Nat) ≤ 1000; omega⟩
    · exact made_decBitTail _ _ _ _ _
  · exact made_decBitTail _ _ _ _ _
theorem made_decBitN (s : ByteArray) (nulls : Bool) (k least : Int) (width p n : Nat) : ∀ c ∈ (decBitN s nulls k least width p n).1, Made c := by
  induction n with
  | zero => intro c hc; simp [decBitN] at hc
  | succ n ih =>
    intro c hc
    simp only [decBitN, List.mem_append, List.mem_cons, List.not_mem_nil, or_false] at hc
    rcases hc with hc | hc
    · exact ih c hc
    · rw [hc]; exact made_decBitCell _ _ _ _ _ _
theorem decBody_made (s : ByteArray) (p k : Int) (u n : Nat) : ∀ c ∈ decBody s p k u n, Made c := by
  unfold decBody
  split
  · exact made_decRunsF s k n n [] u (by simp)
  · split
    · exact made_decPlaces _ _ _ _ _ (made_decN _ _ _ _)
    · split
      · exact made_decBitN _ _ _ _ _ _ _
      · exact made_decN _ _ _ _
theorem decBody_length (s : ByteArray) (p k : Int) (u n : Nat) : (decBody s p k u n).length = n := by
  unfold decBody
  split
  · exact decRunsF_length s k n n [] u (by simp) (by simp)
  · split
    · exact decPlaces_length _ _ _ _ _
    · split
      · exact decBitN_length _ _ _ _ _ _ _
      · exact decN_length _ _ _ _

theorem Try.read65 (w : World) : (method 206 65 (.agg #[]) (methodName Try.prog 50 0)).run Try.prog w = .ok (46, .agg #[]) w := by kernel_rfl
theorem Try.read66 (w : World) : (method 206 66 (.agg #[]) (methodName Try.prog 50 0)).run Try.prog w = .ok (57, .agg #[]) w := by kernel_rfl
theorem Try.read67 (w : World) : (method 206 67 (.agg #[]) (methodName Try.prog 50 0)).run Try.prog w = .ok (62, .agg #[]) w := by kernel_rfl
theorem Try.read68 (w : World) : (method 206 68 (.agg #[]) (methodName Try.prog 50 0)).run Try.prog w = .ok (66, .agg #[]) w := by kernel_rfl

/-- The text is one that Pack answers for what it is read as. -/
def Good (s : ByteArray) : Prop :=
  rd s 16 8 ≤ 64 ∧ packOk (rd s 0 8 : Int) (rd s 8 8 : Int) (decBody s (rd s 0 8 : Int) (rd s 8 8 : Int) 24 (rd s 16 8)) = true ∧ ∃ bs, Lays bs (encPack (rd s 0 8 : Int) (rd s 8 8 : Int) (decBody s (rd s 0 8 : Int) (rd s 8 8 : Int) 24 (rd s 16 8))) ∧ strOf bs = s

end Go.Proofs.Ytgoihalolhmmdaa
