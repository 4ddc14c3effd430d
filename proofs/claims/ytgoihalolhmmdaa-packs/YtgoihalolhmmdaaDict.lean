/-
  The dictionary: which cells stand in it, at which places; the map that finds them.
-/
import Derived.Test.YtgoihalolhmmdaaRunsW
import Derived.DeepKeys4
import Derived.Maps.OwnSet
import Derived.Maps.OwnOps
namespace Go.Proofs.Ytgoihalolhmmdaa
open Go.RowKit Go.Maps Go.WideMaps

theorem Try.laidOut : laidOutB Try.prog = true := by kernel_rfl
theorem Try.row37 : (37 : TypeId) < Try.prog.types.size := of_decide_eq_true (by kernel_rfl)
theorem Try.wide37 : (match Try.prog.underlying 37 with | some (.array _ _) | some (.struct _) => true | _ => false) = true := by kernel_rfl
theorem Try.law37 : KeyLaw Try.prog 37 := deep_law_laid Try.laidOut (m := 2) (by omega) Try.row37 (by kernel_rfl) Try.wide37
theorem Try.keyed37 : Keyed Try.prog 37 := Keyed.of_law Try.law37
theorem Try.cells37 : Try.prog.cellsOf 37 = 3 := by kernel_rfl
theorem Try.cells3 : Try.prog.cellsOf 3 = 1 := by kernel_rfl
theorem Try.cells4 : Try.prog.cellsOf 4 = 1 := by kernel_rfl
theorem Try.cells9 : Try.prog.cellsOf 9 = 1 := by kernel_rfl
theorem Try.keyType37 : Try.prog.keyType 37 = true := by kernel_rfl
theorem Try.zero3 (w : World) : (zeroValue 3).run Try.prog w = .ok (.int .i64 0) w := by kernel_rfl

/-- What a cell reads as, as a map's key. -/
def kl (c : Cl) : Lit := .string (keyBytes [.bool c.null, .int .i64 c.n, .string c.s.data.toList])

theorem wf_of_inInt {n : Int} (h : inInt n) : (Lit.int .i64 n).wf = true := by
  unfold inInt at h
  exact WalkArith.wf_i64 h

theorem key_cell_of {P : Program} {m : Nat} (hm : P.types.size = m + 1)
    (h37 : P.underlying 37 = some (TypeDesc.struct #[{ name := "Null", type := 4, offset := 0, embedded := false, tag := "", pkgPath := "", byteOffset := 0 }, { name := "N", type := 3, offset := 1, embedded := false, tag := "", pkgPath := "", byteOffset := 8 }, { name := "S", type := 9, offset := 2, embedded := false, tag := "", pkgPath := "", byteOffset := 16 }]))
    (h4 : P.underlying 4 = some .bool) (h3 : P.underlying 3 = some (.int .i64)) (h9 : P.underlying 9 = some .string) (hkt : P.keyType 37 = true) (c37 : P.cellsOf 37 = 3) (c4 : P.cellsOf 4 = 1) (c3 : P.cellsOf 3 = 1) (c9 : P.cellsOf 9 = 1)
    (c : Cl) (h : Mild c) : keyOf P 37 (.agg #[.bool c.null, .int .i64 c.n, .string c.s]) = some (kl c) := by
  have hw := wf_of_inInt h.1
  have hs : c.s.size ≤ maxLen := by have := h.2; unfold maxLen; omega
  simp [keyOf, h37, hkt, Value.formed, c37, Value.cells, Program.keyLits, hm, h4, h3, h9, c3, c4, c9, hw, hs, kl]

theorem key_cell (c : Cl) (h : Mild c) : keyOf Try.prog 37 (.agg #[.bool c.null, .int .i64 c.n, .string c.s]) = some (kl c) := by
  obtain ⟨m, hm⟩ := Nat.exists_eq_add_one.2 (Nat.lt_of_le_of_lt (Nat.zero_le _) Try.row37)
  exact key_cell_of hm Try.underlying37 Try.underlying4 Try.underlying3 Try.underlying9 Try.keyType37 Try.cells37 Try.cells4 Try.cells3 Try.cells9 c h

theorem kl_inj {c d : Cl} (hc : Mild c) (hd : Mild d) (h : kl c = kl d) : c = d := by
  have e := Try.law37.inj (key_cell c hc) (h ▸ key_cell d hd)
  simp only [Value.agg.injEq] at e
  have e' := congrArg Array.toList e
  simp at e'
  exact Cl.ext' e'.1 e'.2.1 e'.2.2

def known (es : List Cl) (c : Cl) : Bool := es.any fun d => d.beq c
def place (es : List Cl) (c : Cl) : Nat := es.findIdx fun d => d.beq c
def addTo (es : List Cl) (c : Cl) : List Cl := if known es c then es else es ++ [c]
def ents (cs : List Cl) : List Cl := cs.foldl addTo []

theorem ents_snoc (cs : List Cl) (c : Cl) : ents (cs ++ [c]) = addTo (ents cs) c := by simp [ents]
theorem ents_len (cs : List Cl) : (ents cs).length ≤ cs.length := by
  suffices H : ∀ (cs es : List Cl), (cs.foldl addTo es).length ≤ es.length + cs.length by simpa [ents] using H cs []
  intro cs
  induction cs with
  | nil => simp
  | cons c r ih =>
    intro es
    rw [List.foldl_cons]
    have := ih (addTo es c)
    have h2 : (addTo es c).length ≤ es.length + 1 := by unfold addTo; split <;> simp
    simp only [List.length_cons]
    omega
theorem mem_ents {cs : List Cl} {c : Cl} (h : c ∈ ents cs) : c ∈ cs := by
  suffices H : ∀ (cs es : List Cl), c ∈ cs.foldl addTo es → c ∈ es ∨ c ∈ cs by simpa using H cs [] h
  intro cs
  induction cs with
  | nil => intro es h; exact .inl h
  | cons d r ih =>
    intro es h
    rw [List.foldl_cons] at h
    rcases ih _ h with h | h
    · unfold addTo at h
      split at h
      · exact .inl h
      · rcases List.mem_append.1 h with h | h
        · exact .inl h
        · simp at h; exact .inr (by simp [h])
    · exact .inr (by simp [h])
theorem known_iff (es : List Cl) (c : Cl) : known es c = true ↔ c ∈ es := by
  simp only [known, List.any_eq_true]
  constructor
  · rintro ⟨d, hd, e⟩; rw [Cl.beq_iff] at e; subst e; exact hd
  · intro h; exact ⟨c, h, (Cl.beq_iff c c).2 rfl⟩
theorem known_ents {cs : List Cl} {c : Cl} (h : c ∈ cs) : known (ents cs) c = true := by
  suffices H : ∀ (cs es : List Cl), (c ∈ es ∨ c ∈ cs) → c ∈ cs.foldl addTo es by exact (known_iff _ _).2 (H cs [] (.inr h))
  intro cs
  induction cs with
  | nil => intro es h; simpa using h
  | cons d r ih =>
    intro es h
    rw [List.foldl_cons]
    apply ih
    by_cases hc : c ∈ r
    · exact .inr hc
    · refine .inl ?_
      unfold addTo
      rcases h with h | h
      · split
        · exact h
        · exact List.mem_append_left _ h
      · have : c = d := by simpa [hc] using h
        subst this
        split
        · exact (known_iff _ _).1 ‹_›
        · simp
theorem place_lt {es : List Cl} {c : Cl} (h : known es c = true) : place es c < es.length := by
  unfold place
  rw [List.findIdx_lt_length]
  simpa [known] using h
theorem place_get {es : List Cl} {c : Cl} (h : known es c = true) : es[place es c]? = some c := by
  have hl := place_lt h
  rw [List.getElem?_eq_getElem hl]
  have := List.findIdx_getElem (xs := es) (p := fun d => d.beq c) (w := (show es.findIdx (fun d => d.beq c) < es.length from hl))
  rw [Cl.beq_iff] at this
  exact congrArg some this

/-- The map D knows the cells of es and their places. -/
def DictOk (es : List Cl) (D : DataW Unit) : Prop :=
  IsMap D ∧ ∀ c, Mild c → Maps.has D (kl c) = known es c ∧ (known es c = true → D.atKey (kl c) (.lit (.int .i64 0)) = .lit (.int .i64 (place es c : Int)))

theorem dictOk_nil : DictOk [] (.map []) := ⟨isMap_empty, fun c _ => ⟨rfl, fun h => by simp [known] at h⟩⟩
theorem DictOk.add {es : List Cl} {D : DataW Unit} (h : DictOk es D) {c : Cl} (hc : Mild c) (hn : known es c = false) : DictOk (es ++ [c]) (D.put (kl c) (.lit (.int .i64 (es.length : Int)))) := by
  have hk : WideAt.IsKeyLit (kl c) := trivial
  refine ⟨h.1.put _ _, fun d hd => ?_⟩
  by_cases e : d = c
  · subst e
    have h1 : known (es ++ [d]) d = true := (known_iff _ _).2 (by simp)
    rw [has_put_same h.1 hk, h1]
    refine ⟨rfl, fun _ => ?_⟩
    rw [atKey_put_same h.1 hk]
    have : place (es ++ [d]) d = es.length := by
      unfold place
      rw [List.findIdx_append]
      have h2 : es.findIdx (fun x => x.beq d) = es.length := by
        apply List.findIdx_eq_length.2
        intro x hx
        have := List.any_eq_false.1 (show es.any (fun x => x.beq d) = false from hn) x hx
        simpa using this
      rw [h2, if_neg (by omega)]
      simp [List.findIdx_cons, (Cl.beq_iff d d).2 rfl]
    rw [this]
  · have hne : kl d ≠ kl c := fun h => e (kl_inj hd hc h)
    rw [has_put_other hne, atKey_put_other hne]
    have hb : c.beq d = false := by
      cases hb : c.beq d
      · rfl
      · exact absurd ((Cl.beq_iff _ _).1 hb).symm e
    have h1 : known (es ++ [c]) d = known es d := by simp [known, hb]
    rw [h1]
    refine ⟨(h.2 d hd).1, fun hk => ?_⟩
    rw [(h.2 d hd).2 hk]
    have : place (es ++ [c]) d = place es d := by
      unfold place
      rw [List.findIdx_append, if_pos (show es.findIdx (fun x => x.beq d) < es.length from place_lt hk)]
    rw [this]

/-- So many bits tell a place among n. -/
def pw (n : Nat) : Nat := bitLen (max n 1 - 1)
theorem pw_le (n : Nat) (h : n ≤ 255) : pw n ≤ 8 := bitLen_le _ 8 (by omega)
theorem lt_pw {i n : Nat} (h : i < n) : i < 2 ^ pw n := by
  have h1 := bitLen_lt (max n 1 - 1)
  have h2 : i ≤ max n 1 - 1 := by omega
  exact Nat.lt_of_le_of_lt h2 h1
def encPlaces (es : List Cl) (cs : List Cl) : List Bool := cs.flatMap fun c => bitsOf (place es c) (pw es.length)
theorem encPlaces_snoc (es cs : List Cl) (c : Cl) : encPlaces es (cs ++ [c]) = encPlaces es cs ++ bitsOf (place es c) (pw es.length) := by simp [encPlaces, List.flatMap_append]
theorem encPlaces_len (es cs : List Cl) : (encPlaces es cs).length = cs.length * pw es.length := by
  induction cs with
  | nil => simp [encPlaces]
  | cons c r ih =>
    have e : encPlaces es (c :: r) = bitsOf (place es c) (pw es.length) ++ encPlaces es r := rfl
    rw [e, List.length_append, ih, bitsOf_length, List.length_cons, Nat.succ_mul]; omega
def encDict (k : Int) (cs : List Cl) : List Bool := bitsOf (ents cs).length 8 ++ encPlain k (ents cs) ++ encPlaces (ents cs) cs

/-- The cells of a list, place by place. -/
def cellsL (cs : List Cl) : List Value := cs.flatMap fun c => [.bool c.null, .int .i64 c.n, .string c.s]
theorem cellsL_len (cs : List Cl) : (cellsL cs).length = cs.length * 3 := by
  induction cs with
  | nil => rfl
  | cons c r ih => have e : cellsL (c :: r) = [.bool c.null, .int .i64 c.n, .string c.s] ++ cellsL r := rfl; rw [e, List.length_append, ih, List.length_cons]; simp; omega
theorem cellsL_snoc (cs : List Cl) (c : Cl) : cellsL (cs ++ [c]) = cellsL cs ++ [.bool c.null, .int .i64 c.n, .string c.s] := by simp [cellsL, List.flatMap_append]
theorem cellsL_get {cs : List Cl} {i : Nat} {c : Cl} (h : cs[i]? = some c) : (cellsL cs)[i * 3]? = some (.bool c.null) ∧ (cellsL cs)[i * 3 + 1]? = some (.int .i64 c.n) ∧ (cellsL cs)[i * 3 + 2]? = some (.string c.s) := by
  induction cs generalizing i with
  | nil => simp at h
  | cons d r ih =>
    have e : cellsL (d :: r) = [.bool d.null, .int .i64 d.n, .string d.s] ++ cellsL r := rfl
    cases i with
    | zero => simp at h; subst h; rw [e]; simp
    | succ i =>
      have h' := ih (i := i) (by simpa using h)
      rw [e]
      have h3 : ∀ j, ([Value.bool d.null, .int .i64 d.n, .string d.s] ++ cellsL r)[j + 3]? = (cellsL r)[j]? := fun j => by
        rw [List.getElem?_append_right (by simp)]; simp
      rw [show (i + 1) * 3 = i * 3 + 3 by omega, show i * 3 + 3 + 1 = (i * 3 + 1) + 3 by omega, show i * 3 + 3 + 2 = (i * 3 + 2) + 3 by omega, h3, h3, h3]
      exact h'

/-- A row that is owned holds its cells. -/
theorem colAt_own {w : World} {base g n cap : Nat} {e : TypeId} {cs : List Cl} (h : w.ownsRow base e 3 (.slice (some ⟨g, 0, none⟩) n cap) n (cellsL cs)) : ColAt w g 0 cs := by
  intro i c hc
  have hl : i < cs.length := (List.getElem?_eq_some_iff.1 hc).1
  have hn : cs.length = n := by have := h.1; rw [cellsL_len] at this; omega
  obtain ⟨h1, h2, h3⟩ := cellsL_get hc
  rw [Nat.zero_add]
  exact ⟨(h.cellAt _ (by omega)).trans h1, (h.cellAt _ (by omega)).trans h2, (h.cellAt _ (by omega)).trans h3⟩

theorem ownsMap_block {H : Type} {w w' : World} {P : Program} {k : TypeId} {R : Value → Option (DataW H × List MemPlace)} {b n : Nat} {D : DataW H} (h : w.ownsMap P k R b n D) (hb : w'.heap[b]? = w.heap[b]?) : w'.ownsMap P k R b n D := by
  obtain ⟨es, clock, h1, h2⟩ := h
  exact ⟨es, clock, hb.trans h1, h2⟩

end Go.Proofs.Ytgoihalolhmmdaa
