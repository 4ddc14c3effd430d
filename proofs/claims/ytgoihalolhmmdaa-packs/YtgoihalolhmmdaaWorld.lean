/-
  What a writer of bits is in memory; what is kept while it is written to. Over whatever program.
-/
import Derived.WalkKit
import Derived.Test.YtgoihalolhmmdaaBits
namespace Go.Proofs.Ytgoihalolhmmdaa
open Go.RowKit

theorem hide {p : Prop} (h : p) : Hid p := h
theorem unhide {p : Prop} (h : Hid p) : p := h

def u8s (bs : List Nat) : List Value := bs.map fun (n : Nat) => Value.int .u8 (n : Int)

/-- The blocks of K hold what they held; the streams are as they were. -/
structure Keeps (K : Nat → Prop) (w w' : World) : Prop where
  os : w'.os = w.os
  tape : w'.tape = w.tape
  output : w'.output = w.output
  size : w.heap.size ≤ w'.heap.size
  block : ∀ k, K k → w'.heap[k]? = w.heap[k]?

theorem Keeps.refl (K : Nat → Prop) (w : World) : Keeps K w w := ⟨rfl, rfl, rfl, Nat.le_refl _, fun _ _ => rfl⟩
theorem Keeps.trans {K : Nat → Prop} {a b c : World} (h : Keeps K a b) (k : Keeps K b c) : Keeps K a c :=
  ⟨k.os.trans h.os, k.tape.trans h.tape, k.output.trans h.output, Nat.le_trans h.size k.size, fun i hi => (k.block i hi).trans (h.block i hi)⟩
theorem Keeps.mono {K K' : Nat → Prop} {w w' : World} (h : Keeps K w w') (hK : ∀ k, K' k → K k) : Keeps K' w w' := ⟨h.os, h.tape, h.output, h.size, fun k hk => h.block k (hK k hk)⟩
theorem Keeps.drew {K : Nat → Prop} {a w : World} (h : Keeps K a w) : Keeps K a w.drew := ⟨h.os, h.tape, h.output, h.size, h.block⟩
theorem Keeps.alloc {K : Nat → Prop} {a w : World} (h : Keeps K a w) (hK : ∀ k, K k → k < w.heap.size) (o : Obj) : Keeps K a (w.alloc o) :=
  h.trans ⟨rfl, rfl, rfl, by simp, fun k hk => Below.heap_alloc _ _ _ (hK k hk)⟩
theorem Keeps.setCell {K : Nat → Prop} {a w : World} (h : Keeps K a w) {p : Addr} (hp : ¬ K p.block) (u : Value) : Keeps K a (w.setCell p u) :=
  h.trans ⟨rfl, rfl, rfl, by simp [World.setCell], fun k hk => Below.heap_setCell _ _ _ _ (fun e => hp (e ▸ hk))⟩
theorem Keeps.grown {K : Nat → Prop} {a w w' : World} {row : Option Nat} (h : Keeps K a w) (hg : w.grownBy w' row) (hK : ∀ k, K k → k < w.heap.size) (hr : ∀ k, row = some k → ¬ K k) : Keeps K a w' :=
  h.trans ⟨hg.os, hg.tape, hg.output, hg.size, fun k hk => hg.block k (hK k hk) (fun e => hr k e.symm hk)⟩
theorem Keeps.cell {K : Nat → Prop} {w w' : World} (h : Keeps K w w') {p : Addr} (hp : K p.block) : w'.cell? p = w.cell? p := World.cell?_of_block (w := w) (h.block p.block hp)
theorem Keeps.frozen {K : Nat → Prop} {w w' : World} (h : Keeps K w w') {p : Addr} (hp : K p.block) : w'.frozen? p = w.frozen? p := World.frozen?_of_block (w := w) (h.block p.block hp)
theorem Keeps.below {B : Nat} {w w' : World} (h : Keeps (· < B) w w') : Below B w w' := ⟨h.os, h.tape, h.output, h.size, h.block⟩
theorem Keeps.of_below {B : Nat} {w w' : World} (h : Below B w w') : Keeps (· < B) w w' := ⟨h.os, h.tape, h.output, h.size, h.block⟩

theorem grownBy_setCell (w : World) (a : Addr) (u : Value) : w.grownBy (w.setCell a u) (some a.block) :=
  ⟨rfl, rfl, rfl, by simp [World.setCell], fun k _ hk => Below.heap_setCell w a u k (fun e => hk (congrArg some e))⟩

theorem ownsRow_mono {w : World} {base base' : Nat} {e : TypeId} {size : Nat} {v : Value} {n : Nat} {xs : List Value} (h : w.ownsRow base e size v n xs) (hb : base' ≤ base) : w.ownsRow base' e size v n xs := by
  refine ⟨h.1, ?_⟩
  rcases h.2 with h2 | ⟨g, cap, cur, hv, hg, r⟩
  · exact .inl h2
  · exact .inr ⟨g, cap, cur, hv, Nat.le_trans hb hg, r⟩

/-- 'append' onto a row of the call's own: the array is the old one, or a new block. -/
theorem wpList_append_mine {P : Program} (w : World) {ops : Array Oper} {rest : List Oper} {o : Oper} {a : Act} {Q : Exit → Act → World → Prop} (hgd : o.guard = none) (s x : Operand) (t : TypeId)
    (ho : o.op = .call { callee := .builtin .append, args := #[s, x], argTypes := #[t, t] })
    (base : Nat) (e : TypeId) (i : TypeInfo) (z : Value) (size bytes : Nat) (ht : P.underlying t = some (.slice e)) (hi : P.info? e = some i) (hz : i.zero = some z)
    (hsize : i.size = size) (hby : i.bytes = bytes) (hzs : z.cells.size = size) (hsz : 0 < size)
    (v : Value) (n : Nat) (xs : List Value) (hs : a.eval s = v) (hown : w.ownsRow base e size v n xs)
    (ad : Addr) (m c : Nat) (news : List Value) (hx : a.eval x = .slice (some ad) m c) (hl : news.length = m * size) (hnews : ∀ j u, news[j]? = some u → w.cell? (ad.add j) = some u) (h1 : ∀ u ∈ news, u.oneCell' = true)
    (hm : 0 < m) (h63 : n + m ≤ maxLen) (hbytes : (n + m) * bytes ≤ 140737488355328) (hbase : base ≤ w.heap.size)
    (h : ∀ g cap w', w'.ownsRow base e size (.slice (some ⟨g, 0, none⟩) (n + m) cap) (n + m) (xs ++ news) → w.grownBy w' v.ownBlock → (v.ownBlock = some g ∨ w.heap.size ≤ g) → wpList P ops Q rest (a.put o.dst (.slice (some ⟨g, 0, none⟩) (n + m) cap)) w') : wpList P ops Q (o :: rest) a w := by
  have grow : ∀ v' w', w'.ownsRow w.heap.size e size v' (n + m) (xs ++ news) → w.grownBy w' none → wpList P ops Q rest (a.put o.dst v') w' := by
    intro v' w' h2 h3
    obtain ⟨g, cap, rfl, hg⟩ : ∃ g cap, v' = .slice (some ⟨g, 0, none⟩) (n + m) cap ∧ w.heap.size ≤ g := by
      rcases h2.2 with ⟨_, h⟩ | ⟨g, cap', _, h, hb, _⟩
      · omega
      · exact ⟨g, cap', h, hb⟩
    exact h g cap w' (ownsRow_mono h2 hbase) ⟨h3.os, h3.tape, h3.output, h3.size, fun k hk _ => h3.block k hk (by simp)⟩ (.inr hg)
  have hown' := hown
  rcases hown.2 with ⟨rfl, rfl⟩ | ⟨g, cap, cur, rfl, hbg, hg, hnc, hcm, hcs, htake⟩
  · have hx0 : xs = [] := List.eq_nil_of_length_eq_zero (by simpa using hown.1)
    subst hx0
    exact wpList_append_grows w hgd s x t ho e i z size bytes ht hi hz hsize hby hzs hsz none 0 0 [] hs (fun _ => ⟨rfl, rfl⟩) (by simp) (by intro _ h; cases h) ad m c news hx hl hnews h1 (by omega) h63 hbytes grow
  · by_cases hroom : n + m ≤ cap
    · exact wpList_append_fits w hgd s x t ho base e i size ht hi hsize g n cap xs hs hown' ad m c news hx hl hnews h1 hroom (fun w' h2 h3 => h g cap w' h2 h3 (.inl rfl))
    · exact wpList_append_grows w hgd s x t ho e i z size bytes ht hi hz hsize hby hzs hsz (some ⟨g, 0, none⟩) n cap xs hs (by intro h; cases h) hown.1 (by intro b hb; cases hb; exact hown'.cells rfl) ad m c news hx hl hnews h1 (by omega) h63 hbytes grow

theorem grownBy_of_below {w w' : World} (h : Below w.heap.size w w') : w.grownBy w' none := ⟨h.os, h.tape, h.output, h.size, fun k hk _ => h.block k hk⟩
theorem Keeps.of_grown {K : Nat → Prop} {w w' : World} (h : w.grownBy w' none) (hK : ∀ k, K k → k < w.heap.size) : Keeps K w w' := ⟨h.os, h.tape, h.output, h.size, fun k hk => h.block k (hK k hk) (by simp)⟩
/-- The length of a slice, for a loop's measure. -/
def lenOf : Value → Nat | .slice _ m _ => m | _ => 0

/-- A writer of bits at block p: its two cells, the array that it owns, apart from K; the bytes bs hold the bits l. -/
structure Wr (K : Nat → Prop) (w : World) (p : Nat) (v : Value) (bs : List Nat) (l : List Bool) : Prop where
  lays : Lays bs l
  sl : w.cell? ⟨p, 0, none⟩ = some v
  used : w.cell? ⟨p, 1, none⟩ = some (.int .i64 (l.length : Int))
  f0 : w.frozen? ⟨p, 0, none⟩ = false
  f1 : w.frozen? ⟨p, 1, none⟩ = false
  own : w.ownsRow 0 5 1 v bs.length (u8s bs)
  apart : v.ownBlock ≠ some p
  kp : ¬ K p
  kv : ∀ g, v.ownBlock = some g → ¬ K g
  old : ∀ k, K k → k < w.heap.size

def Writer (K : Nat → Prop) (w : World) (p : Nat) (l : List Bool) : Prop := ∃ v bs, Wr K w p v bs l

theorem Writer.of_keeps {K : Nat → Prop} {w w' : World} {p : Nat} {l : List Bool} (h : Writer K w p l) (hg : w.grownBy w' none) : Writer K w' p l := by
  obtain ⟨v, bs, h⟩ := h
  have hp : p < w.heap.size := World.block_lt_of_cell? _ _ h.sl
  have hb : w'.heap[p]? = w.heap[p]? := hg.block p hp (by simp)
  exact ⟨v, bs, h.lays, (World.cell?_of_block (w := w) hb).trans h.sl, (World.cell?_of_block (w := w) hb).trans h.used, (World.frozen?_of_block (w := w) hb).trans h.f0, (World.frozen?_of_block (w := w) hb).trans h.f1,
    h.own.kept hg (by cases v.ownBlock <;> simp), h.apart, h.kp, h.kv, fun k hk => Nat.lt_of_lt_of_le (h.old k hk) hg.size⟩
theorem Writer.alloc {K : Nat → Prop} {w : World} {p : Nat} {l : List Bool} (h : Writer K w p l) (o : Obj) : Writer K (w.alloc o) p l := h.of_keeps (World.grownBy_alloc w o none)
theorem Writer.drew {K : Nat → Prop} {w : World} {p : Nat} {l : List Bool} (h : Writer K w p l) : Writer K w.drew p l := h.of_keeps ⟨rfl, rfl, rfl, Nat.le_refl _, fun _ _ _ => rfl⟩
theorem Writer.old {K : Nat → Prop} {w : World} {p : Nat} {l : List Bool} (h : Writer K w p l) : ∀ k, K k → k < w.heap.size := by
  obtain ⟨v, bs, h⟩ := h; exact h.old
theorem Writer.lt {K : Nat → Prop} {w : World} {p : Nat} {l : List Bool} (h : Writer K w p l) : p < w.heap.size := by
  obtain ⟨v, bs, h⟩ := h; exact World.block_lt_of_cell? _ _ h.sl
/-- New blocks, made since, may join the kept ones. -/
theorem Writer.also {K K' : Nat → Prop} {w w' : World} {p : Nat} {l : List Bool} (h : Writer K w p l) (hg : w.grownBy w' none) (hK : ∀ k, K' k → K k ∨ (w.heap.size ≤ k ∧ k < w'.heap.size)) : Writer K' w' p l := by
  have hp := h.lt
  obtain ⟨v, bs, h'⟩ := h.of_keeps hg
  obtain ⟨v0, bs0, h0⟩ := h
  have hb : w'.heap[p]? = w.heap[p]? := hg.block p hp (by simp)
  have hv : v = v0 := by
    have := ((World.cell?_of_block (w := w) (w' := w') (a := ⟨p, 0, none⟩) hb).trans h0.sl).symm.trans h'.sl
    exact (Option.some.inj this).symm
  subst hv
  refine ⟨v, bs, h'.lays, h'.sl, h'.used, h'.f0, h'.f1, h'.own, h'.apart, ?_, ?_, ?_⟩
  · intro hk
    rcases hK p hk with h | h
    · exact h0.kp h
    · omega
  · intro g hg' hk
    rcases hK g hk with h | h
    · exact h0.kv g hg' h
    · have := (h0.own.lt g hg').2; omega
  · intro k hk
    rcases hK k hk with h | h
    · exact h'.old k h
    · exact h.2
/-- Fewer may be kept. -/
theorem Writer.less {K K' : Nat → Prop} {w : World} {p : Nat} {l : List Bool} (h : Writer K w p l) (hK : ∀ k, K' k → K k) : Writer K' w p l :=
  h.also ⟨rfl, rfl, rfl, Nat.le_refl _, fun _ _ _ => rfl⟩ (fun k hk => .inl (hK k hk))

/-- The same with room for one bit more; its array lies at block g. -/
structure WrRoom (K : Nat → Prop) (w : World) (p g m cap : Nat) (bs : List Nat) (l : List Bool) : Prop where
  lays : LaysRoom bs l
  len : m = bs.length
  sl : w.cell? ⟨p, 0, none⟩ = some (.slice (some ⟨g, 0, none⟩) m cap)
  used : w.cell? ⟨p, 1, none⟩ = some (.int .i64 (l.length : Int))
  f0 : w.frozen? ⟨p, 0, none⟩ = false
  f1 : w.frozen? ⟨p, 1, none⟩ = false
  own : w.ownsRow 0 5 1 (.slice (some ⟨g, 0, none⟩) m cap) m (u8s bs)
  apart : g ≠ p
  kp : ¬ K p
  kg : ¬ K g
  old : ∀ k, K k → k < w.heap.size

theorem u8s_get {bs : List Nat} {j : Nat} (h : j < bs.length) : (u8s bs)[j]? = some (.int .u8 ((bs.getD j 0 : Nat) : Int)) := by
  simp [u8s, List.getD, h]

theorem Wr.slice {K : Nat → Prop} {w : World} {p : Nat} {v : Value} {bs : List Nat} {l : List Bool} (h : Wr K w p v bs l) (hb : 0 < bs.length) :
    ∃ g cap, v = .slice (some ⟨g, 0, none⟩) bs.length cap := by
  rcases h.own.2 with ⟨_, h⟩ | ⟨g, cap, _, h, _⟩
  · omega
  · exact ⟨g, cap, h⟩

theorem Wr.room {K : Nat → Prop} {w : World} {p : Nat} {v : Value} {bs : List Nat} {l : List Bool} (h : Wr K w p v bs l) (h8 : l.length % 8 ≠ 0) :
    ∃ g cap, v = .slice (some ⟨g, 0, none⟩) bs.length cap ∧ WrRoom K w p g bs.length cap bs l := by
  have hl := h.lays.room_old h8
  obtain ⟨g, cap, rfl⟩ := h.slice (by rw [hl.len]; omega)
  exact ⟨g, cap, rfl, hl, rfl, h.sl, h.used, h.f0, h.f1, h.own, fun e => h.apart (by rw [e]; rfl), h.kp, h.kv g rfl, h.old⟩

/-- Behind 'append(w.laid, 0)' and the store of the slice: a byte more. -/
theorem Wr.grown {K : Nat → Prop} {w w1 : World} {p g cap : Nat} {v : Value} {bs : List Nat} {l : List Bool} {o : Obj} (h : Wr K w p v bs l) (h8 : l.length % 8 = 0)
    (hown : w1.ownsRow 0 5 1 (.slice (some ⟨g, 0, none⟩) (bs.length + 1) cap) (bs.length + 1) (u8s bs ++ [.int .u8 0])) (hg : (w.alloc o).grownBy w1 v.ownBlock)
    (hb : v.ownBlock = some g ∨ (w.alloc o).heap.size ≤ g) :
    Keeps K w w1 ∧ w1.cell? ⟨p, 0, none⟩ = some v ∧ w1.frozen? ⟨p, 0, none⟩ = false ∧ WrRoom K (w1.setCell ⟨p, 0, none⟩ (.slice (some ⟨g, 0, none⟩) (bs.length + 1) cap)) p g (bs.length + 1) cap (bs ++ [0]) l := by
  have hb' : v.ownBlock = some g ∨ w.heap.size < g := by rcases hb with h1 | h1; exact .inl h1; exact .inr (by simp at h1; omega)
  have hK : Keeps K w w1 := ((Keeps.refl K w).alloc h.old o).grown hg (fun k hk => by have := h.old k hk; simp; omega) (fun k e => h.kv k e)
  have hps : p < w.heap.size := World.block_lt_of_cell? _ _ h.sl
  have hblk : w1.heap[p]? = w.heap[p]? := (hg.block p (by simp; omega) (fun e => h.apart e.symm)).trans (Below.heap_alloc _ _ _ hps)
  have c0 := (World.cell?_of_block (w := w) (w' := w1) (a := ⟨p, 0, none⟩) hblk).trans h.sl
  have c1 := (World.cell?_of_block (w := w) (w' := w1) (a := ⟨p, 1, none⟩) hblk).trans h.used
  have e0 := (World.frozen?_of_block (w := w) (w' := w1) (a := ⟨p, 0, none⟩) hblk).trans h.f0
  have e1 := (World.frozen?_of_block (w := w) (w' := w1) (a := ⟨p, 1, none⟩) hblk).trans h.f1
  have hgp : g ≠ p := by
    rcases hb' with h1 | h1
    · intro e; subst e; exact h.apart h1
    · omega
  have hKg : ¬ K g := by
    rcases hb' with h1 | h1
    · exact h.kv g h1
    · intro hk; have := h.old g hk; omega
  refine ⟨hK, c0, e0, h.lays.room_new h8, by simp, World.cell?_setCell_same _ _ _ c0, ?_, ?_, ?_, ?_, hgp, h.kp, hKg, ?_⟩
  · rw [World.cell?_setCell_other _ _ _ _ (by simp)]; exact c1
  · rw [World.frozen?_setCell]; exact e0
  · rw [World.frozen?_setCell]; exact e1
  · have e : u8s (bs ++ [0]) = u8s bs ++ [.int .u8 0] := by simp [u8s]
    rw [e]
    exact hown.kept (grownBy_setCell _ ⟨p, 0, none⟩ _) (.inr (by simp [Value.ownBlock, hgp]))
  · intro k hk
    have := hK.size
    have := h.old k hk
    simp [World.setCell]
    omega

theorem WrRoom.cell {K : Nat → Prop} {w : World} {p g m cap : Nat} {bs : List Nat} {l : List Bool} (h : WrRoom K w p g m cap bs l) :
    w.cell? ⟨g, l.length / 8, none⟩ = some (.int .u8 ((bs.getD (l.length / 8) 0 : Nat) : Int)) ∧ w.frozen? ⟨g, l.length / 8, none⟩ = false ∧ l.length / 8 < m ∧ bs.getD (l.length / 8) 0 < 256 := by
  have hl := h.lays.len
  have hm := h.len
  refine ⟨?_, h.own.frozenAt _, by omega, getD_small h.lays.small _⟩
  rw [h.own.cellAt _ (by omega), u8s_get (by omega)]

theorem WrRoom.done {K : Nat → Prop} {w : World} {p g m cap : Nat} {bs : List Nat} {l : List Bool} (h : WrRoom K w p g m cap bs l) (b : Bool) (x : Int)
    (hx : x = ((bs.getD (l.length / 8) 0 ||| b.toNat * 2 ^ (l.length % 8) : Nat) : Int)) (y : Int) (hy : y = ((l.length + 1 : Nat) : Int)) :
    Writer K ((w.setCell ⟨g, l.length / 8, none⟩ (.int .u8 x)).setCell ⟨p, 1, none⟩ (.int .i64 y)).drew p (l ++ [b]) := by
  subst hx hy
  have hm := h.len
  subst hm
  obtain ⟨o1, _⟩ := h.own.stored (l.length / 8) (.int .u8 ((bs.getD (l.length / 8) 0 ||| b.toNat * 2 ^ (l.length % 8) : Nat) : Int))
  have hne : (⟨g, l.length / 8, none⟩ : Addr) ≠ ⟨p, 1, none⟩ := fun e => h.apart (congrArg Addr.block e)
  have hne0 : (⟨g, l.length / 8, none⟩ : Addr) ≠ ⟨p, 0, none⟩ := fun e => h.apart (congrArg Addr.block e)
  refine ⟨.slice (some ⟨g, 0, none⟩) bs.length cap, bs.set (l.length / 8) (bs.getD (l.length / 8) 0 ||| b.toNat * 2 ^ (l.length % 8)), h.lays.put b, ?_, ?_, ?_, ?_, ?_, ?_, h.kp, ?_, ?_⟩
  · show World.cell? (World.setCell _ _ _) _ = _
    rw [World.cell?_setCell_other _ _ _ _ (by simp), World.cell?_setCell_other _ _ _ _ hne0]; exact h.sl
  · show World.cell? (World.setCell _ _ _) _ = _
    rw [List.length_append]
    exact World.cell?_setCell_same _ _ _ ((World.cell?_setCell_other _ _ _ _ hne).trans h.used)
  · show World.frozen? (World.setCell _ _ _) _ = _
    rw [World.frozen?_setCell, World.frozen?_setCell]; exact h.f0
  · show World.frozen? (World.setCell _ _ _) _ = _
    rw [World.frozen?_setCell, World.frozen?_setCell]; exact h.f1
  · have e : u8s (bs.set (l.length / 8) (bs.getD (l.length / 8) 0 ||| b.toNat * 2 ^ (l.length % 8))) = (u8s bs).set (l.length / 8) (.int .u8 ((bs.getD (l.length / 8) 0 ||| b.toNat * 2 ^ (l.length % 8) : Nat) : Int)) := by
      simp only [u8s, List.map_set]
    rw [e, List.length_set]
    exact (o1.kept (grownBy_setCell _ ⟨p, 1, none⟩ _) (.inr (by simp [Value.ownBlock, h.apart]))).drew
  · simp [Value.ownBlock, h.apart]
  · intro g' hg'
    simp [Value.ownBlock] at hg'
    subst hg'
    exact h.kg
  · intro k hk
    have := h.old k hk
    simpa [World.setCell] using this

theorem WrRoom.keeps {K : Nat → Prop} {w0 w : World} {p g m cap : Nat} {bs : List Nat} {l : List Bool} (h : WrRoom K w p g m cap bs l) (hk : Keeps K w0 w) (o : Nat) (x y : Value) :
    Keeps K w0 ((w.setCell ⟨g, o, none⟩ x).setCell ⟨p, 1, none⟩ y).drew :=
  ((hk.setCell h.kg _).setCell h.kp _).drew

theorem put_value (old v k n : Nat) (ho : old < 256) (hv : v < 18446744073709551616) :
    bits BinOp.or IntKind.u8 (old : Int) (bits BinOp.and IntKind.u64 ((v : Int) / 2 ^ min k 64) 1 % 256 * 2 ^ (n % 8) % 256) = ((old ||| (v.testBit k).toNat * 2 ^ (n % 8) : Nat) : Int) := by
  have e1 : (v : Int) / 2 ^ min k 64 = ((v / 2 ^ min k 64 : Nat) : Int) := by
    rw [Int.natCast_ediv]
    congr 1
  have hlt : v / 2 ^ min k 64 < 18446744073709551616 := Nat.lt_of_le_of_lt (Nat.div_le_self _ _) hv
  have e2 : bits BinOp.and IntKind.u64 ((v / 2 ^ min k 64 : Nat) : Int) 1 = ((v / 2 ^ min k 64 &&& 1 : Nat) : Int) := u64_and_nat _ 1 hlt (by omega)
  have e3 : v / 2 ^ min k 64 &&& 1 = (v.testBit k).toNat := by
    rw [Nat.and_one_is_mod]
    by_cases hk : k ≤ 64
    · rw [Nat.min_eq_left hk, testBit_nat]
    · rw [Nat.min_eq_right (by omega), Nat.testBit_lt_two_pow (Nat.lt_of_lt_of_le hv (show 18446744073709551616 ≤ 2 ^ k from by
        have : (2 : Nat) ^ 64 ≤ 2 ^ k := Nat.pow_le_pow_right (by omega) (by omega)
        simpa using this))]
      have : v / 2 ^ 64 = 0 := Nat.div_eq_of_lt (by simpa using hv)
      simp [this]
  have hp : (v.testBit k).toNat * 2 ^ (n % 8) < 256 := by
    have : 2 ^ (n % 8) ≤ 2 ^ 7 := Nat.pow_le_pow_right (by omega) (by omega)
    cases v.testBit k <;> simp <;> omega
  have e4 : ((v.testBit k).toNat : Int) % 256 * 2 ^ (n % 8) % 256 = (((v.testBit k).toNat * 2 ^ (n % 8) : Nat) : Int) := by
    have h1 : ((v.testBit k).toNat : Int) % 256 = ((v.testBit k).toNat : Int) := by cases v.testBit k <;> simp
    rw [h1]
    have h2 : ((v.testBit k).toNat : Int) * 2 ^ (n % 8) = (((v.testBit k).toNat * 2 ^ (n % 8) : Nat) : Int) := by
      rw [Int.natCast_mul, Int.natCast_pow]; rfl
    rw [h2]
    exact Int.emod_eq_of_lt (by omega) (by omega)
  rw [e1, e2, e3, e4]
  exact u8_or_nat _ _ ho hp

end Go.Proofs.Ytgoihalolhmmdaa
