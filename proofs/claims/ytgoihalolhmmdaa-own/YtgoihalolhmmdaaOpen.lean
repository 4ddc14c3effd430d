import Derived.Test.YtgoihalolhmmdaaRows
import Derived.Test.YtgoihalolhmmdaaOwnW
import Derived.ProofKit
import Derived.OpenShut
import Derived.SizedLaws
import Derived.Deep.Slices
import Derived.Deep.Strs
namespace Go.Proofs.Ytgoihalolhmmdaa
open Go.ChangeShapes Go.WideShapes Go.ChangeAt Go.RowKit Go.Deep

/-- What a cell reads as. -/
def cellD {H : Type} (c : Cl) : DataW H := .agg [.lit (.bool c.null), .lit (.int .i64 c.n), .lit (.string c.s.data.toList)]

theorem inInt_of_wf {n : Int} (h : (Lit.int .i64 n).wf = true) : inInt n := by
  simpa [Lit.wf, IntKind.min, IntKind.max, IntKind.signed, IntKind.bits, inInt] using h

theorem Try.bytes37 : Try.prog.bytesOf 37 = 32 := by kernel_rfl

theorem open_cell {H : Type} {enc : TypeId × Value → H} {W : World} {n : Nat} {cs' : List Value} {y : DataW H × List MemPlace} (h : DataW.trod enc Try.prog W 0 (fun _ => true) true n 37 cs' = some y) :
    ∃ c : Cl, cs' = [.bool c.null, .int .i64 c.n, .string c.s] ∧ y.1 = cellD c ∧ inInt c.n := by
  obtain ⟨y0, y1, y2, m, rfl, hl, h0, h1, h2⟩ := trod_struct3 Try.underlying37 h
  rw [Try.cells37] at hl
  rw [Try.cells4] at h0
  rw [Try.cells3] at h1
  rw [Try.cells9] at h2
  match cs', hl with
  | [v0, v1, v2], _ =>
    obtain ⟨b, e0, rfl⟩ := DataW.trod_bool Try.underlying4 h0
    obtain ⟨x, e1, rfl, wx⟩ := DataW.trod_int Try.underlying3 h1
    obtain ⟨s, e2, rfl, hs⟩ := DataW.trod_string Try.underlying9 h2
    simp at e0 e1 e2
    subst e0 e1 e2
    exact ⟨⟨b, x, s⟩, rfl, rfl, inInt_of_wf wx⟩

theorem open_column {H : Type} {enc : TypeId × Value → H} {W : World} {fuel : Nat} {v : Value} {x : DataW H × List MemPlace} (h : DataW.trod enc Try.prog W 0 (fun _ => true) true fuel 22 [v] = some x) :
    ∃ (cs : List Cl) (a : Option Addr) (b off cap : Nat), v = .slice a cs.length cap ∧ cs.length ≤ cap ∧ (0 < cs.length → a = some ⟨b, off, none⟩) ∧ ColAt W b off cs ∧ (∀ c ∈ cs, inInt c.n) ∧ ((x.1 = .nil ∧ cs = []) ∨ ∃ rest, x.1 = .slice (cs.map cellD) rest) := by
  rcases open_slice Try.underlying22 h with ⟨hcs, rfl⟩ | ⟨a, len, cap, m, n, D, Pl, hcs, hb, hl, hm, hmm, rfl, hx⟩
  · simp only [List.cons.injEq, and_true] at hcs
    exact ⟨[], none, 0, 0, 0, hcs, Nat.zero_le _, by simp, fun i c hc => by simp at hc, by simp, .inl ⟨rfl, rfl⟩⟩
  · simp only [List.cons.injEq, and_true] at hcs
    subst hcs
    have hml : len ≤ m := by rw [hmm]; simp; omega
    rw [Try.cells37] at hx
    have hinh : Inhabited Cl := ⟨zeroCl⟩
    obtain ⟨F, hF⟩ := choose_lt (α := Cl) (n := len) (p := fun i c => W.cells? 0 (a.add (i * 3)) 3 = some [.bool c.null, .int .i64 c.n, .string c.s] ∧ D i = cellD c ∧ inInt c.n) (fun i hi => by
      obtain ⟨cs', h1, h2⟩ := hx i (by omega)
      obtain ⟨c, rfl, e, hn⟩ := open_cell h2
      exact ⟨c, h1, e, hn⟩)
    have hget : ∀ i c, ((List.range len).map F)[i]? = some c → i < len ∧ c = F i := by
      intro i c hc
      rw [List.getElem?_map] at hc
      by_cases hi : i < len
      · rw [List.getElem?_range hi] at hc
        simp at hc
        exact ⟨hi, hc.symm⟩
      · rw [List.getElem?_eq_none (by simp; omega)] at hc
        simp at hc
    have hcell : ∀ i, i < len → ∀ j, j < 3 → W.cell? ((a.add (i * 3)).add j) = [Value.bool (F i).null, .int .i64 (F i).n, .string (F i).s][j]? := by
      intro i hi j hj
      obtain ⟨_, _, hc⟩ := World.cells?_some (hF i hi).1
      exact hc j hj
    have hspot : 0 < len → a.spot = none := by
      intro h0
      have := hcell 0 h0 0 (by omega)
      rw [Nat.zero_mul] at this
      have ha : (a.add 0).add 0 = a := by simp [Addr.add]
      rw [ha] at this
      cases hs : a.spot with
      | none => rfl
      | some z =>
        simp only [World.cell?, hs] at this
        split at this <;> simp at this
    refine ⟨(List.range len).map F, some a, a.block, a.off, cap, by simp, by simpa using hl, ?_, ?_, ?_, .inr ⟨(List.range (m - len)).map (fun j => D (len + j)), ?_⟩⟩
    · intro h0
      have := hspot (by simpa using h0)
      cases a; simp_all
    · intro i c hc
      obtain ⟨hi, rfl⟩ := hget i c hc
      have hsp := hspot (by omega)
      obtain ⟨ab, ao, asp⟩ := a
      simp only at hsp
      subst hsp
      have e : ∀ j, ((⟨ab, ao, none⟩ : Addr).add (i * 3)).add j = ⟨ab, ao + i * 3 + j, none⟩ := fun j => by rw [Addr.add_lit, Addr.add_lit]
      have h0 := hcell i hi 0 (by omega)
      have h1 := hcell i hi 1 (by omega)
      have h2 := hcell i hi 2 (by omega)
      rw [e] at h0 h1 h2
      exact ⟨h0, h1, h2⟩
    · intro c hc
      obtain ⟨i, hi, rfl⟩ := List.mem_map.1 hc
      exact (hF i (by simpa using hi)).2.2
    · show DataW.slice ((List.range len).map D) _ = _
      congr 1
      rw [List.map_map]
      exact List.map_congr_left (fun i hi => (hF i (by simpa using hi)).2.1)

theorem weights_cell {H : Type} (cs : List Cl) (c : Cl) (hc : c ∈ cs) : c.s.size ∈ DataW.weightsAll Try.prog 37 (cs.map (cellD (H := H))) := by
  induction cs with
  | nil => simp at hc
  | cons d r ih =>
    simp only [List.map_cons, DataW.weightsAll, List.mem_append]
    rcases List.mem_cons.1 hc with rfl | hc
    · left
      simp [cellD, DataW.weights, Try.underlying37, DataW.weightsEach]
    · exact .inr (ih hc)

/-- What the form's own reach says of a column. -/
theorem sized_column {H : Type} {ts : List TypeId} {ds : List (DataW H)} (h : (DataW.weightsEach Try.prog ts ds).all (· ≤ reachBytes) = true) {j : Nat} {cs : List Cl} {rest : List (DataW H)} (ht : ts[j]? = some 22) (hd : ds[j]? = some (.slice (cs.map cellD) rest)) :
    cs.length * 32 ≤ 140737488351232 ∧ ∀ c ∈ cs, c.s.size ≤ 140737488351232 := by
  constructor
  · have := sized_slice h ht hd Try.underlying22
    rw [Try.bytes37, List.length_map] at this
    have e : reachBytes = 140737488351232 := rfl
    omega
  · intro c hc
    have := List.all_eq_true.1 h _ (DataW.weights_mem_each ht hd c.s.size (by
      simp only [DataW.weights, Try.underlying22]
      exact List.mem_cons_of_mem _ (List.mem_append_left _ (weights_cell cs c hc))))
    have e : reachBytes = 140737488351232 := rfl
    rw [← e]
    simpa using this

end Go.Proofs.Ytgoihalolhmmdaa
