/-
  Plain mathematics: what is packed is read as it was.
-/
import Derived.Test.YtgoihalolhmmdaaUnpack
namespace Go.Proofs.Ytgoihalolhmmdaa
open Go.RowKit

theorem strOf_byte {bs : List Nat} (h : ∀ b ∈ bs, b < 256) (j : Nat) : tbyte (strOf bs) j = bs.getD j 0 := by
  unfold tbyte strOf
  by_cases hj : j < bs.length
  · simp only [List.getD, List.getElem?_map, List.getElem?_eq_getElem hj, Option.map_some, Option.getD_some]
    exact UInt8.toNat_ofNat_of_lt' (h _ (List.getElem_mem hj))
  · simp [List.getD, List.getElem?_eq_none (Nat.le_of_not_lt hj)]
theorem strOf_size (bs : List Nat) : (strOf bs).size = bs.length := by
  show ((bs.map UInt8.ofNat).toArray).size = _
  simp

theorem plain_round {s : ByteArray} {k : Int} {u : Nat} {cs : List Cl} (hf : ∀ c ∈ cs, FitsK k c) :
    ∀ i, i ≤ cs.length → At s u (encPlain k (cs.take i)) → decN s k u i = (cs.take i, u + (encPlain k (cs.take i)).length) := by
  intro i
  induction i with
  | zero => intro _ _; simp [decN, encPlain]
  | succ i ih =>
    intro hi hat
    have hc : cs[i]? = some cs[i] := List.getElem?_eq_getElem (by omega)
    rw [take_succ_get hc, encPlain_snoc, At.append] at hat
    have h1 := ih (by omega) hat.1
    have h2 := dec_enc (hf _ (List.getElem_mem (show i < cs.length by omega))) hat.2
    rw [decN, h1, take_succ_get hc, encPlain_snoc]
    simp only [h2, List.length_append]
    rw [Nat.add_assoc]

theorem fr_take (c : Cl) (r : List Cl) : (c :: r).take (fr (c :: r)) = List.replicate (fr (c :: r)) c := by
  have h : ∀ l : List Cl, l.take (l.takeWhile fun d => d.beq c).length = List.replicate (l.takeWhile fun d => d.beq c).length c := by
    intro l
    induction l with
    | nil => simp
    | cons d l ih =>
      rw [List.takeWhile_cons]
      cases hb : d.beq c
      · simp
      · have e := (Cl.beq_iff d c).1 hb
        subst e
        simp only [if_true, List.length_cons, List.take_succ_cons, List.replicate_succ, ih]
  exact h (c :: r)

theorem runs_round {s : ByteArray} {k : Int} {n : Nat} : ∀ (f : Nat) (l r : List Cl) (u : Nat), (∀ c ∈ r, FitsK k c) → l.length + r.length = n → r.length ≤ f → n ≤ 255 → At s u (encRuns k r) → decRunsF s k n f l u = l ++ r := by
  intro f
  induction f with
  | zero =>
    intro l r u _ _ hr _ _
    have : r = [] := List.eq_nil_of_length_eq_zero (by omega)
    subst this
    simp [decRunsF]
  | succ f ih =>
    intro l r u hf hn hr h255 hat
    cases r with
    | nil => rw [decRunsF_full _ _ _ _ _ _ (by simp at hn; omega)]; simp
    | cons c r =>
      have hp := fr_pos (cs := c :: r) (by simp)
      have hl := fr_le (c :: r)
      have hlen : (c :: r).length = r.length + 1 := by simp
      rw [encRuns_cons, At.append, At.append, bitsOf_length] at hat
      obtain ⟨⟨h1, h2⟩, h3⟩ := hat
      have e1 := rd_of_at h1 (by omega) (by omega)
      have e2 := dec_enc (hf c (by simp)) h2
      rw [List.length_append, bitsOf_length, ← Nat.add_assoc] at h3
      rw [decRunsF, if_pos (by omega), e1, e2]
      simp only
      rw [show fr (c :: r) - 1 + 1 = fr (c :: r) by omega, Nat.min_eq_left (by omega), ← fr_take]
      rw [ih _ ((c :: r).drop (fr (c :: r))) _ (fun d hd => hf d (List.mem_of_mem_drop hd)) ?_ ?_ h255 h3]
      · rw [List.append_assoc, List.take_append_drop]
      · rw [List.length_append, List.length_take, List.length_drop]; omega
      · rw [List.length_drop]; omega

theorem places_round {s : ByteArray} {es cs : List Cl} {u : Nat} (hk : ∀ c ∈ cs, known es c = true) (hp : pw es.length ≤ 64) :
    ∀ i, i ≤ cs.length → At s u (encPlaces es (cs.take i)) → decPlaces s es (pw es.length) u i = cs.take i := by
  intro i
  induction i with
  | zero => intro _ _; simp [decPlaces]
  | succ i ih =>
    intro hi hat
    have hc : cs[i]? = some cs[i] := List.getElem?_eq_getElem (by omega)
    rw [take_succ_get hc, encPlaces_snoc, At.append, encPlaces_len, List.length_take, Nat.min_eq_left (by omega)] at hat
    have hkn := hk _ (List.getElem_mem (show i < cs.length by omega))
    rw [decPlaces, ih (by omega) hat.1, take_succ_get hc, rd_of_at hat.2 hp (lt_pw (place_lt hkn)), atPlace, List.getD, place_get hkn]
    rfl

theorem dict_round {s : ByteArray} {k : Int} {u : Nat} {cs : List Cl} (hf : ∀ c ∈ cs, FitsK k c) (hn : cs.length ≤ 64) (hat : At s u (encDict k cs)) : decDict s k u cs.length = cs := by
  have hel := ents_len cs
  unfold encDict at hat
  rw [At.append, At.append, bitsOf_length, List.length_append, bitsOf_length] at hat
  obtain ⟨⟨h1, h2⟩, h3⟩ := hat
  have e1 := rd_of_at h1 (by omega) (by omega)
  have e2 := plain_round (s := s) (k := k) (u := u + 8) (cs := ents cs) (fun c hc => hf c (mem_ents hc)) (ents cs).length (Nat.le_refl _) (by rw [List.take_of_length_le (Nat.le_refl _)]; exact h2)
  rw [List.take_of_length_le (Nat.le_refl _)] at e2
  unfold decDict
  rw [e1, e2]
  have hpw := pw_le (ents cs).length (by omega)
  have e3 := places_round (s := s) (es := ents cs) (cs := cs) (u := u + 8 + (encPlain k (ents cs)).length) (fun c hc => known_ents hc) (by omega) cs.length (Nat.le_refl _) (by rw [List.take_of_length_le (Nat.le_refl _), Nat.add_assoc]; exact h3)
  rw [List.take_of_length_le (Nat.le_refl _)] at e3
  exact e3

theorem bitTail_round {s : ByteArray} {k least : Int} {width p : Nat} {c : Cl} (hf : FitsK k c) (hn : c.null = false) (hw : width ≤ 64) (hl : least ≤ c.n) (hb : (c.n - least).toNat < 2 ^ width)
    (hat : At s p (if k = 1 then bitsOf c.s.size 4 ++ encBytes 7 c.s.data.toList else bitsOf (c.n - least).toNat width)) :
    decBitTail s k least width p = (c, p + (if k = 1 then bitsOf c.s.size 4 ++ encBytes 7 c.s.data.toList else bitsOf (c.n - least).toNat width).length) := by
  obtain ⟨hin, hf⟩ := hf
  rw [if_neg (by rw [hn]; simp)] at hf
  unfold decBitTail
  by_cases h1 : k = 1
  · rw [if_pos h1] at hat ⊢
    rw [if_pos h1]
    rw [if_neg (by omega), if_pos h1] at hf
    rw [At.append, bitsOf_length] at hat
    have e := rd_of_at hat.1 (by omega) (by have := hf.2.1; omega)
    rw [e]
    have hs := rdStr_of_at (s := s) (u := p + 4) (wd := 7) c.s.data.toList (by omega) (fun b hb => by have := (hf.2.2 b hb).2.1; omega) c.s.size (by rw [size_list]; omega)
      (by rw [List.take_of_length_le (by rw [size_list]; omega)]; exact hat.2)
    rw [List.take_of_length_le (by rw [size_list]; omega)] at hs
    rw [hs]
    simp only [List.length_append, bitsOf_length, encBytes_length, size_list]
    refine Prod.ext (Cl.ext' hn.symm hf.1.symm rfl) (by show p + 4 + c.s.size * 7 = _; omega)
  · rw [if_neg h1] at hat ⊢
    rw [if_neg h1]
    rw [rd_of_at hat hw hb, addW_eq hin hl, bitsOf_length]
    have hse : c.s = ByteArray.empty := by
      by_cases hk0 : k = 0
      · rw [if_pos hk0] at hf; exact hf
      · rw [if_neg hk0, if_neg h1] at hf
        by_cases hk2 : k = 2
        · rw [if_pos hk2] at hf; exact hf.1
        · rw [if_neg hk2] at hf; exact hf.elim
    exact Prod.ext (Cl.ext' hn.symm rfl hse.symm) rfl

theorem bitCell_round {s : ByteArray} {nulls : Bool} {k least : Int} {width p : Nat} {c : Cl} (hf : FitsK k c) (hnn : nulls = false → c.null = false) (hw : width ≤ 64) (hl : c.null = false → least ≤ c.n ∧ (c.n - least).toNat < 2 ^ width)
    (hat : At s p (encBitCell nulls k least width c)) : decBitCell s nulls k least width p = (c, p + (encBitCell nulls k least width c).length) := by
  unfold encBitCell at hat ⊢
  unfold decBitCell
  cases nulls
  · have hn := hnn rfl
    have hn' : ¬ c.null = true := by rw [hn]; simp
    simp only [Bool.false_eq_true, if_false, List.nil_append] at hat ⊢
    rw [if_neg hn'] at hat ⊢
    exact bitTail_round hf hn hw (hl hn).1 (hl hn).2 hat
  · simp only [if_true] at hat ⊢
    rw [At.append] at hat
    have h0 : sbit s p = c.null := by
      have := hat.1 0 (by simp)
      simpa using this
    cases hn : c.null
    · have hn' : ¬ c.null = true := by rw [hn]; simp
      have h2 := hat.2
      rw [if_neg hn'] at h2
      rw [h0, hn]
      simp only [Bool.false_eq_true, if_false]
      have := bitTail_round (s := s) (p := p + 1) hf hn hw (hl hn).1 (hl hn).2 (by simpa using h2)
      rw [this, List.length_append]
      simp only [List.length_cons, List.length_nil]
      rw [Nat.add_assoc]
    · rw [h0, hn]
      have hfc := hf.2
      rw [if_pos hn] at hfc
      simp only [if_true, List.append_nil, List.length_cons, List.length_nil]
      exact Prod.ext (Cl.ext' hn.symm hfc.1.symm hfc.2.symm) rfl

theorem bitN_round {s : ByteArray} {nulls : Bool} {k least : Int} {width p : Nat} {cs : List Cl} (hf : ∀ c ∈ cs, FitsK k c) (hnn : nulls = false → ∀ c ∈ cs, c.null = false) (hw : width ≤ 64)
    (hl : ∀ c ∈ cs, c.null = false → least ≤ c.n ∧ (c.n - least).toNat < 2 ^ width) :
    ∀ i, i ≤ cs.length → At s p (encBitCells nulls k least width (cs.take i)) → decBitN s nulls k least width p i = (cs.take i, p + (encBitCells nulls k least width (cs.take i)).length) := by
  intro i
  induction i with
  | zero => intro _ _; simp [decBitN, encBitCells]
  | succ i ih =>
    intro hi hat
    have hc : cs[i]? = some cs[i] := List.getElem?_eq_getElem (by omega)
    have hm := List.getElem_mem (show i < cs.length by omega)
    rw [take_succ_get hc, encBitCells_snoc, At.append] at hat
    have h1 := ih (by omega) hat.1
    have h2 := bitCell_round (hf _ hm) (fun h => hnn h _ hm) hw (hl _ hm) hat.2
    rw [decBitN, h1, take_succ_get hc, encBitCells_snoc]
    simp only [h2, List.length_append]
    rw [Nat.add_assoc]

theorem bits_round {s : ByteArray} {k : Int} {u : Nat} {cs : List Cl} (hf : ∀ c ∈ cs, FitsK k c) (hat : At s u (encBits k cs)) : decBits s k u cs.length = cs := by
  have hin := numsOf_in (fun c h => (hf c h).1)
  have hli := leastOf_in hin
  have hsp := span_lt hin
  have hw := bitLen_le64 hsp
  unfold encBits at hat
  rw [At.append, At.append] at hat
  obtain ⟨⟨h1, h2⟩, h3⟩ := hat
  have h0 : sbit s u = cs.any fun c => c.null := by
    have := h1 0 (by simp)
    simpa using this
  have hfr : frameAt s k (u + 1) = if k = 1 then (0, 0, u + 1) else (leastOf (numsOf cs), bitLen (spanOf (numsOf cs)), u + 1 + (encNum (leastOf (numsOf cs)) ++ bitsOf (bitLen (spanOf (numsOf cs))) 7).length) := by
    unfold frameAt
    by_cases hk : k = 1
    · rw [if_pos hk, if_pos hk]
    · rw [if_neg hk, if_neg hk]
      rw [if_neg hk] at h2
      simp only [List.length_cons, List.length_nil, Nat.zero_add] at h2
      rw [At.append] at h2
      have hc0 : FitsK 0 ⟨false, leastOf (numsOf cs), ByteArray.empty⟩ := ⟨hli, by simp⟩
      have e0 : encCell 0 ⟨false, leastOf (numsOf cs), ByteArray.empty⟩ = encNum (leastOf (numsOf cs)) := by simp [encCell]
      have e1 := dec_enc (s := s) (u := u + 1) hc0 (by rw [e0]; exact h2.1)
      rw [e0] at e1
      rw [e1]
      simp only
      rw [rd_of_at h2.2 (by omega) (by have : (2 : Nat) ^ 7 = 128 := by decide
                                       omega), List.length_append, bitsOf_length, Nat.add_assoc (u + 1)]
  have hnn : (cs.any fun c => c.null) = false → ∀ c ∈ cs, c.null = false := by
    intro h c hc
    have := List.any_eq_false.1 h c hc
    simpa using this
  have hl : ∀ c ∈ cs, c.null = false → leastOf (numsOf cs) ≤ c.n ∧ (c.n - leastOf (numsOf cs)).toNat < 2 ^ bitLen (spanOf (numsOf cs)) := by
    intro c hc hn
    have hm := mem_nums hc hn
    have g1 := leastOf_le hm
    have g2 := le_greatOf hm
    refine ⟨g1, Nat.lt_of_le_of_lt ?_ (bitLen_lt _)⟩
    unfold spanOf
    omega
  unfold decBits
  rw [h0, hfr]
  by_cases hk : k = 1
  · rw [if_pos hk]
    rw [if_pos hk] at h3
    simp only [List.append_nil, List.length_cons, List.length_nil, Nat.zero_add] at h3
    -- at strings the frame is of no use
    have e : ∀ least width, encBitCells (cs.any fun c => c.null) k least width cs = encBitCells (cs.any fun c => c.null) k 0 0 cs := by
      intro least width
      unfold encBitCells
      congr 1
      funext c
      unfold encBitCell
      simp only [if_pos hk]
    rw [e] at h3
    have hl0 : ∀ c ∈ cs, c.null = false → (0 : Int) ≤ c.n ∧ (c.n - 0).toNat < 2 ^ 0 := by
      intro c hc hn
      have := (hf c hc).2
      rw [if_neg (by rw [hn]; simp), if_neg (by omega), if_pos hk] at this
      rw [this.1]; simp
    have := bitN_round (s := s) (p := u + 1) hf hnn (by omega) hl0 cs.length (Nat.le_refl _) (by rw [List.take_of_length_le (Nat.le_refl _)]; exact h3)
    rw [List.take_of_length_le (Nat.le_refl _)] at this
    simp only [this]
  · rw [if_neg hk]
    rw [if_neg hk] at h3
    rw [List.length_append, List.length_cons, List.length_nil, Nat.zero_add, ← Nat.add_assoc] at h3
    have := bitN_round (s := s) (p := u + 1 + (encNum (leastOf (numsOf cs)) ++ bitsOf (bitLen (spanOf (numsOf cs))) 7).length) hf hnn hw hl cs.length (Nat.le_refl _) (by rw [List.take_of_length_le (Nat.le_refl _)]; exact h3)
    rw [List.take_of_length_le (Nat.le_refl _)] at this
    simp only [this]

/-- What Pack answers is read as it was. -/
theorem pack_round {bs : List Nat} {p k : Int} {cs : List Cl} (hlay : Lays bs (encPack p k cs)) (hp0 : 0 ≤ p) (hp3 : p ≤ 3) (hk0 : 0 ≤ k) (hk2 : k ≤ 2) (hn : cs.length ≤ 64) (hin : ∀ c ∈ cs, inInt c.n) (hall : cs.all (okB k) = true) :
    ((rd (strOf bs) 0 8 : Nat) : Int) = p ∧ ((rd (strOf bs) 8 8 : Nat) : Int) = k ∧ rd (strOf bs) 16 8 = cs.length ∧ decBody (strOf bs) p k 24 cs.length = cs ∧ Good (strOf bs) := by
  have hf : ∀ c ∈ cs, FitsK k c := fun c h => okB_fits (hin c h) (List.all_eq_true.1 hall c h)
  have hat := hlay.at (strOf bs) (strOf_byte hlay.small)
  unfold encPack at hat
  rw [At.append, At.append, At.append] at hat
  simp only [List.length_append, bitsOf_length, Nat.zero_add] at hat
  obtain ⟨⟨⟨h1, h2⟩, h3⟩, h4⟩ := hat
  have e1 := rd_of_at h1 (by omega) (by omega)
  have e2 := rd_of_at h2 (by omega) (by omega)
  have e3 := rd_of_at h3 (by omega) (by omega)
  have e1' : ((rd (strOf bs) 0 8 : Nat) : Int) = p := by rw [e1]; omega
  have e2' : ((rd (strOf bs) 8 8 : Nat) : Int) = k := by rw [e2]; omega
  have e4 : decBody (strOf bs) p k 24 cs.length = cs := by
    unfold decBody
    unfold body at h4
    by_cases p1 : p = 1
    · rw [if_pos p1] at h4 ⊢
      have := runs_round (s := strOf bs) (k := k) (n := cs.length) cs.length [] cs 24 hf (by simp) (Nat.le_refl _) (by omega) h4
      exact this
    · rw [if_neg p1] at h4 ⊢
      by_cases p2 : p = 2
      · rw [if_pos p2] at h4 ⊢
        exact dict_round hf hn h4
      · rw [if_neg p2] at h4 ⊢
        by_cases p3 : p = 3
        · rw [if_pos p3] at h4 ⊢
          exact bits_round hf h4
        · rw [if_neg p3] at h4 ⊢
          have := plain_round (s := strOf bs) (k := k) (u := 24) hf cs.length (Nat.le_refl _) (by rw [List.take_of_length_le (Nat.le_refl _)]; exact h4)
          rw [List.take_of_length_le (Nat.le_refl _)] at this
          rw [this]
  refine ⟨e1', e2', e3, e4, ?_⟩
  unfold Good
  rw [e1', e2', e3, e4]
  refine ⟨hn, ?_, bs, hlay, rfl⟩
  unfold packOk
  rw [hall]
  simp
  omega

end Go.Proofs.Ytgoihalolhmmdaa
