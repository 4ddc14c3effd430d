import Derived.Test.YtgoihalolhmmdaaPens
import Derived.Deep.QuietTactic
import Derived.BigQuiet
namespace Go.Proofs.Ytgoihalolhmmdaa
open Go.RowKit

/-- The cells cs lie from ⟨b, off⟩ on, three places each. -/
def ColAt (w : World) (b off : Nat) (cs : List Cl) : Prop :=
  ∀ i c, cs[i]? = some c → w.cell? ⟨b, off + i * 3, none⟩ = some (.bool c.null) ∧ w.cell? ⟨b, off + i * 3 + 1, none⟩ = some (.int .i64 c.n) ∧ w.cell? ⟨b, off + i * 3 + 2, none⟩ = some (.string c.s)

theorem ColAt.kept {K : Nat → Prop} {w w' : World} {b off : Nat} {cs : List Cl} (h : ColAt w b off cs) (hk : Keeps K w w') (hb : K b) : ColAt w' b off cs := by
  intro i c hc
  obtain ⟨h1, h2, h3⟩ := h i c hc
  exact ⟨(hk.cell (p := ⟨b, _, none⟩) hb).trans h1, (hk.cell (p := ⟨b, _, none⟩) hb).trans h2, (hk.cell (p := ⟨b, _, none⟩) hb).trans h3⟩
theorem ColAt.drop {w : World} {b off : Nat} {cs : List Cl} (h : ColAt w b off cs) (n : Nat) : ColAt w b (off + n * 3) (cs.drop n) := by
  intro i c hc
  rw [List.getElem?_drop] at hc
  have := h (n + i) c hc
  rw [show off + n * 3 + i * 3 = off + (n + i) * 3 by omega]
  exact this

/-- What is asked of a cell that is laid. -/
def Mild (c : Cl) : Prop := inInt c.n ∧ c.s.size ≤ 12

def encPlain (k : Int) (cs : List Cl) : List Bool := cs.flatMap (encCell k)
theorem encPlain_snoc (k : Int) (cs : List Cl) (c : Cl) : encPlain k (cs ++ [c]) = encPlain k cs ++ encCell k c := by simp [encPlain, List.flatMap_append]
theorem encPlain_le (k : Int) (cs : List Cl) (h : ∀ c ∈ cs, Mild c) : (encPlain k cs).length ≤ 168 * cs.length := by
  induction cs with
  | nil => simp [encPlain]
  | cons c r ih =>
    have e : encPlain k (c :: r) = encCell k c ++ encPlain k r := rfl
    have h1 := encCell_le k c (h c (by simp)).1
    have h2 := (h c (by simp)).2
    have h3 := ih (fun d hd => h d (by simp [hd]))
    rw [e, List.length_append, List.length_cons]
    omega
theorem take_succ_get {α : Type} {cs : List α} {k : Nat} {c : α} (h : cs[k]? = some c) : cs.take (k + 1) = cs.take k ++ [c] := by
  rw [List.take_add_one, h]; rfl

set_option maxHeartbeats 400000 in
set_option maxRecDepth 100000 in
theorem plainWrite_any (K : Nat → Prop) (p : Nat) (l : List Bool) (k : Int) (cs : List Cl) (a : Option Addr) (b off cap : Nat) (w : World) (hw : Writer K w p l)
    (ha : 0 < cs.length → a = some ⟨b, off, none⟩) (hc : ColAt w b off cs) (hK : 0 < cs.length → K b) (hok : ∀ c ∈ cs, Mild c) (hlen : cs.length ≤ 64) (hb : l.length ≤ 1000) :
    Calls Try.prog 67 #[.agg #[], .pointer (some ⟨p, 0, none⟩), .int .i64 k, .slice a cs.length cap] w fun e w' => e = .returned (.tuple #[]) ∧ Writer K w' p (l ++ encPlain k cs) ∧ Keeps K w w' := by
  have HC := hide hc
  have HO := hide hok
  clear hc hok
  go_enter Try.func67, Try.ntmps67
  go_wp2
  go_loopw [12] (fun c wr => ∃ i : Nat, i ≤ cs.length ∧ c = .int .i64 i ∧ Writer K wr p (l ++ encPlain k (cs.take i)) ∧ Keeps K w wr) (fun c _ => cs.length - (intOf c).toNat)
  case atStart => exact ⟨0, Nat.zero_le _, rfl, by simpa [encPlain] using hw.alloc _, (Keeps.refl K w).alloc hw.old _⟩
  case round =>
    obtain ⟨i, hi, rfl, hwr, hkeep⟩ := hrel
    by_cases hlt : i < cs.length
    · have hlt' : (i : Int) < (cs.length : Int) := by omega
      obtain ⟨c, hci⟩ : ∃ c, cs[i]? = some c := ⟨cs[i], List.getElem?_eq_getElem hlt⟩
      obtain rfl := ha (by omega)
      obtain ⟨c0, c1, c2⟩ := (unhide HC).kept hkeep (hK (by omega)) i c hci
      have HW := hide hwr
      have HK := hide hkeep
      have HI := hide hci
      clear hw hwr hkeep hci ha hK
      have hbw : b < wr.heap.size := World.block_lt_of_cell? _ _ c0
      go_wp2_with fail
      have hm := unhide HO c (List.mem_of_getElem? (unhide HI))
      have hle := encPlain_le k (cs.take i) (fun d hd => unhide HO d (List.mem_of_mem_take hd))
      rw [List.length_take] at hle
      refine (putCell_any K p _ k c _ ((unhide HW).alloc _) hm.1 (by have := hm.2; omega) (by rw [List.length_append]; omega)).mono ?_
      rintro e w1 ⟨rfl, h2, h3⟩
      have H2 := hide h2
      have H3 := hide (((unhide HK).alloc (unhide HW).old _).trans h3)
      clear h2 h3 hm hle
      go_wp2
      go_roundw
      case rel =>
        refine ⟨i + 1, by omega, by go_num, ?_, unhide H3⟩
        rw [take_succ_get (unhide HI), encPlain_snoc, ← List.append_assoc]
        exact unhide H2
      case measure => simp [intOf]; omega
    · obtain rfl : i = cs.length := by omega
      have HW := hide hwr
      have HK := hide hkeep
      clear hw hwr hkeep
      go_wp2
      go_end0
      refine ⟨rfl, ?_, unhide HK⟩
      have := unhide HW
      rwa [List.take_of_length_le (Nat.le_refl _)] at this

end Go.Proofs.Ytgoihalolhmmdaa
