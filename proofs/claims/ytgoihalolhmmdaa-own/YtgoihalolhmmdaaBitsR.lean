import Derived.Test.YtgoihalolhmmdaaDictR
namespace Go.Proofs.Ytgoihalolhmmdaa
open Go.RowKit

/-- least + v, as 64 bits tell it. -/
def addW (least : Int) (v : Nat) : Int := wrap64 (least + (v : Int))
theorem addW_in (least : Int) (v : Nat) : inInt (addW least v) := by unfold addW wrap64 inInt; omega
theorem addW_eq {least n : Int} (hn : inInt n) (h : least ≤ n) : addW least (n - least).toNat = n := by
  unfold addW
  rw [show least + ((n - least).toNat : Int) = n by omega]
  unfold wrap64 inInt at *
  omega

def decBitTail (s : ByteArray) (k least : Int) (width p : Nat) : Cl × Nat :=
  if k = 1 then (⟨false, 0, ⟨(rdStr s (p + 4) 7 (rd s p 4)).toArray⟩⟩, p + 4 + rd s p 4 * 7) else (⟨false, addW least (rd s p width), ByteArray.empty⟩, p + width)
def decBitCell (s : ByteArray) (nulls : Bool) (k least : Int) (width p : Nat) : Cl × Nat :=
  if nulls then (if sbit s p then (⟨true, 0, ByteArray.empty⟩, p + 1) else decBitTail s k least width (p + 1)) else decBitTail s k least width p
theorem decBitTail_le (s : ByteArray) (k least : Int) (width p : Nat) (hw : width ≤ 127) : (decBitTail s k least width p).2 ≤ p + 127 := by
  have h := rd_lt_pow s p 4
  have h2 : (2 : Nat) ^ 4 = 16 := by decide
  unfold decBitTail
  split
  · show p + 4 + rd s p 4 * 7 ≤ _; omega
  · show p + width ≤ _; omega
theorem decBitCell_le (s : ByteArray) (nulls : Bool) (k least : Int) (width p : Nat) (hw : width ≤ 127) : (decBitCell s nulls k least width p).2 ≤ p + 128 := by
  have h1 := decBitTail_le s k least width p hw
  have h2 := decBitTail_le s k least width (p + 1) hw
  unfold decBitCell
  split
  · split
    · show p + 1 ≤ _; omega
    · omega
  · omega
def decBitN (s : ByteArray) (nulls : Bool) (k least : Int) (width p : Nat) : Nat → List Cl × Nat
  | 0 => ([], p)
  | n + 1 => ((decBitN s nulls k least width p n).1 ++ [(decBitCell s nulls k least width (decBitN s nulls k least width p n).2).1], (decBitCell s nulls k least width (decBitN s nulls k least width p n).2).2)
theorem decBitN_length (s : ByteArray) (nulls : Bool) (k least : Int) (width p n : Nat) : (decBitN s nulls k least width p n).1.length = n := by
  induction n with
  | zero => rfl
  | succ n ih => simp [decBitN, ih]
theorem decBitN_le (s : ByteArray) (nulls : Bool) (k least : Int) (width p n : Nat) (hw : width ≤ 127) : (decBitN s nulls k least width p n).2 ≤ p + n * 128 := by
  induction n with
  | zero => simp [decBitN]
  | succ n ih => have := decBitCell_le s nulls k least width (decBitN s nulls k least width p n).2 hw; simp only [decBitN]; omega
/-- The frame: the least number, the width, and the place behind. -/
def frameAt (s : ByteArray) (k : Int) (u : Nat) : Int × Nat × Nat :=
  if k = 1 then (0, 0, u) else ((decCell s 0 u).1.n, rd s (decCell s 0 u).2 7, (decCell s 0 u).2 + 7)
def decBits (s : ByteArray) (k : Int) (u n : Nat) : List Cl :=
  (decBitN s (sbit s u) k (frameAt s k (u + 1)).1 (frameAt s k (u + 1)).2.1 (frameAt s k (u + 1)).2.2 n).1

theorem set_one (A : List Cl) (m : Nat) (d : Cl) (o : Nat) (ho : o < 3) (v : Value) : (cellsL (A ++ List.replicate (m + 1) d)).set (A.length * 3 + o) v = cellsL A ++ (([.bool d.null, .int .i64 d.n, .string d.s] : List Value).set o v ++ cellsL (List.replicate m d)) := by
  have e1 : cellsL (A ++ List.replicate (m + 1) d) = cellsL A ++ ([.bool d.null, .int .i64 d.n, .string d.s] ++ cellsL (List.replicate m d)) := by
    rw [cellsL_append, List.replicate_succ]; rfl
  have hl := cellsL_len A
  rw [e1, ← hl, List.set_append_right _ _ (by omega), show (cellsL A).length + o - (cellsL A).length = o by omega, List.set_append_left _ _ (by simpa using ho)]
theorem cellsL_mid (A : List Cl) (m : Nat) (d c : Cl) : cellsL ((A ++ [c]) ++ List.replicate m d) = cellsL A ++ ([.bool c.null, .int .i64 c.n, .string c.s] ++ cellsL (List.replicate m d)) := by
  rw [List.append_assoc, cellsL_append]; rfl
theorem stored_null {w : World} {base g n cap i : Nat} {A : List Cl} {m : Nat} (hi : A.length = i) (h : w.ownsRow base 37 3 (.slice (some ⟨g, 0, none⟩) n cap) n (cellsL (A ++ List.replicate (m + 1) zeroCl))) :
    (w.setCell ⟨g, i * 3, none⟩ (.bool true)).ownsRow base 37 3 (.slice (some ⟨g, 0, none⟩) n cap) n (cellsL ((A ++ [⟨true, 0, ByteArray.empty⟩]) ++ List.replicate m zeroCl)) := by
  have e := set_one A m zeroCl 0 (by omega) (.bool true)
  rw [hi, show i * 3 + 0 = i * 3 from rfl] at e
  rw [cellsL_mid]
  have h' := (h.stored (i * 3) (.bool true)).1
  rw [e] at h'
  exact h'
theorem stored_num {w : World} {base g n cap i : Nat} {A : List Cl} {m : Nat} (hi : A.length = i) (x : Int) (h : w.ownsRow base 37 3 (.slice (some ⟨g, 0, none⟩) n cap) n (cellsL (A ++ List.replicate (m + 1) zeroCl))) :
    (w.setCell ⟨g, i * 3 + 1, none⟩ (.int .i64 x)).ownsRow base 37 3 (.slice (some ⟨g, 0, none⟩) n cap) n (cellsL ((A ++ [⟨false, x, ByteArray.empty⟩]) ++ List.replicate m zeroCl)) := by
  have e := set_one A m zeroCl 1 (by omega) (.int .i64 x)
  rw [hi] at e
  rw [cellsL_mid]
  have h' := (h.stored (i * 3 + 1) (.int .i64 x)).1
  rw [e] at h'
  exact h'
theorem stored_str {w : World} {base g n cap i : Nat} {A : List Cl} {m : Nat} (hi : A.length = i) (x : ByteArray) (h : w.ownsRow base 37 3 (.slice (some ⟨g, 0, none⟩) n cap) n (cellsL (A ++ List.replicate (m + 1) zeroCl))) :
    (w.setCell ⟨g, i * 3 + 2, none⟩ (.string x)).ownsRow base 37 3 (.slice (some ⟨g, 0, none⟩) n cap) n (cellsL ((A ++ [⟨false, 0, x⟩]) ++ List.replicate m zeroCl)) := by
  have e := set_one A m zeroCl 2 (by omega) (.string x)
  rw [hi] at e
  rw [cellsL_mid]
  have h' := (h.stored (i * 3 + 2) (.string x)).1
  rw [e] at h'
  exact h'

theorem field_n (nl : Bool) (n : Int) (x : ByteArray) (w : World) : (Instr.field 37 (.agg #[.bool nl, .int .i64 n, .string x]) 1).run Try.prog w = .ok (.int .i64 n) w := by kernel_rfl
theorem conv_add (least : Int) (z : Nat) : wrap64 (IntKind.u64.wrap (IntKind.u64.wrap least + (z : Int))) = addW least z := by
  unfold addW wrap64
  rw [IntKind.wrap_u64, IntKind.wrap_u64]
  omega

set_option maxHeartbeats 3200000 in
set_option maxRecDepth 100000 in
theorem bitsRead_any (r : Nat) (s : ByteArray) (u : Nat) (k : Int) (n : Nat) (w : World) (h : Rdr w r s u) (hs : s.size ≤ 140737488351232) (hn : n ≤ 255) (hb : u ≤ 1000000) :
    Calls Try.prog 62 #[.agg #[], .pointer (some ⟨r, 0, none⟩), .int .i64 k, .int .i64 (n : Int)] w fun e w' => ∃ v, e = .returned v ∧ w'.ownsRow w.heap.size 37 3 v n (cellsL (decBits s k u n)) ∧ w.grownBy w' (some r) := by
  obtain ⟨i0, hi, hz0, hz1, hz2⟩ := info_parts Try.info37
  have H := hide (h.alloc (.cells #[] 67))
  have hrl := h.lt
  clear h
  go_enter Try.func62, Try.ntmps62
  go_wp2_with fail
  refine (getFlag_any r s u _ (unhide H) hs (by omega)).mono ?_
  rintro e w0 ⟨rfl, h4, h5⟩
  have HDD : Hid (decBits s k u n = (decBitN s (sbit s u) k (frameAt s k (u + 1)).1 (frameAt s k (u + 1)).2.1 (frameAt s k (u + 1)).2.2 n).1) := hide rfl
  generalize sbit s u = nulls at *
  have HR0 := hide h4
  have HG0 := hide ((World.grownBy_alloc w (.cells #[] 67) (some r)).trans h5)
  clear h4 h5
  by_cases hk : k = 1
  · have HF : Hid (frameAt s k (u + 1) = (0, 0, u + 1)) := hide (by unfold frameAt; rw [if_pos hk])
    have HK1 := hide hk
    have t1 : (k != 1) = false := by simp [hk]
    have t2 : (k == 1) = true := by simp [hk]
    clear hk
    go_wp2_with (at_make; refine wpList_make_full _ rfl _ _ 22 rfl w.heap.size 37 i0 _ 3 Try.underlying22 hi hz0 hz1 _ _ _ _ n rfl rfl rfl rfl (by rw [hz2]; omega) (by unfold maxLen; omega) (by have := (unhide HG0).size; omega) ?_; intro w1 hown hgrow)
    rw [made_cells] at hown
    have HOWN := hide hown
    have HG := hide ((unhide HG0).trans (hgrow.but (some r)))
    have HR := hide ((unhide HR0).kept hgrow (by simp))
    have hsw := (unhide HG0).size
    clear hown hgrow
    go_wp2
    go_loopw [28] (fun c wr => ∃ i : Nat, i ≤ n ∧ c = .int .i64 i ∧ Hid (wr.ownsRow w.heap.size 37 3 (.slice (some ⟨w0.heap.size, 0, none⟩) n n) n (cellsL ((decBitN s nulls k 0 0 (u + 1) i).1 ++ List.replicate (n - i) zeroCl))) ∧ Hid (Rdr wr r s (decBitN s nulls k 0 0 (u + 1) i).2) ∧ Hid (w.grownBy wr (some r))) (fun c _ => n - (intOf c).toNat)
    case atStart => exact ⟨0, Nat.zero_le _, rfl, hide (by simpa [decBitN] using unhide HOWN), hide (by simpa [decBitN] using unhide HR), HG⟩
    case round =>
      obtain ⟨i, hi', rfl, HO, HRK, HGK⟩ := hrel
      by_cases hlt : i < n
      · have hlt' : (i : Int) < (n : Int) := by omega
        have hple := decBitN_le s nulls k 0 0 (u + 1) i (by omega)
        have hil : i * 128 ≤ 255 * 128 := Nat.mul_le_mul_right _ (by omega)
        have hdl := decBitN_length s nulls k 0 0 (u + 1) i
        have hsn : (decBitN s nulls k 0 0 (u + 1) (i + 1)).1 = (decBitN s nulls k 0 0 (u + 1) i).1 ++ [(decBitCell s nulls k 0 0 (decBitN s nulls k 0 0 (u + 1) i).2).1] := rfl
        have hsn2 : (decBitN s nulls k 0 0 (u + 1) (i + 1)).2 = (decBitCell s nulls k 0 0 (decBitN s nulls k 0 0 (u + 1) i).2).2 := rfl
        generalize (decBitN s nulls k 0 0 (u + 1) i).1 = A at *
        generalize (decBitN s nulls k 0 0 (u + 1) i).2 = q at *
        have hqb : q ≤ 4000000 := by omega
        have HDL := hide hdl
        have HS1 := hide hsn
        have HS2 := hide hsn2
        clear hple hil hdl hsn hsn2
        cases nulls
        · have HDC : Hid (decBitCell s false k 0 0 q = decBitTail s k 0 0 q) := hide rfl
          have HRQ := HRK
          have HOQ := HO
          have HGQ := HGK
          go_wp2_with fail
          refine (get_any r s (q) _ _ (unhide HRQ) hs (by omega) (by rw [show Int.toNat 4 = 4 from rfl]; omega)).mono ?_
          rintro e w6 ⟨rfl, h4, h5⟩
          rw [show Int.toNat 4 = 4 from rfl] at *
          have HTL : Hid (decBitTail s k 0 0 (q) = (⟨false, 0, ⟨(rdStr s (q + 4) 7 (rd s (q) 4)).toArray⟩⟩, q + 4 + rd s (q) 4 * 7)) := hide (by unfold decBitTail; rw [if_pos (unhide HK1)])
          have hr4 := rd_lt_pow s (q) 4
          have h24 : (2 : Nat) ^ 4 = 16 := by decide
          generalize rd s (q) 4 = z at *
          have hz16 : z ≤ 15 := by omega
          have HR6 := hide h4
          have HO6 := hide ((unhide HOQ).kept h5 (by simp [Value.ownBlock]; omega))
          have HG6 := hide ((unhide HGQ).trans h5)
          clear h4 h5 hr4 h24
          go_wp2_with fail
          refine (getString_any r s _ _ _ _ (unhide HR6) hs (by omega) (by omega) (by omega) (by omega) (by omega)).mono ?_
          rintro e w7 ⟨rfl, h4, h5⟩
          rw [show Int.toNat 7 = 7 from rfl, Int.toNat_natCast] at *
          have ho7 := (unhide HO6).kept h5 (by simp [Value.ownBlock]; omega)
          have HR7 := hide h4
          have HG7 := hide ((unhide HG6).trans h5)
          rw [show n - i = (n - (i + 1)) + 1 by omega] at ho7
          obtain ⟨⟨c0, c1, c2⟩, f0, f1, f2⟩ := row_cells ho7 (unhide HDL)
          have HST := hide (stored_str (unhide HDL) ⟨(rdStr s (q + 4) 7 z).toArray⟩ ho7)
          clear h4 h5 ho7
          go_wp2_with fail
          go_roundw
          case rel =>
            refine ⟨i + 1, by omega, by go_num, hide ?_, hide ?_, hide ?_⟩
            · rw [unhide HS1, unhide HDC, unhide HTL]; exact unhide HST
            · rw [unhide HS2, unhide HDC, unhide HTL]
              exact (unhide HR7).of_block (Below.heap_setCell _ _ _ _ (by show r ≠ w0.heap.size; omega))
            · exact grownBy_setNew (unhide HG7) (by show w.heap.size ≤ w0.heap.size; omega) _
          case measure => simp [intOf]; omega
        · have HDC : Hid (decBitCell s true k 0 0 q = if sbit s q then (⟨true, 0, ByteArray.empty⟩, q + 1) else decBitTail s k 0 0 (q + 1)) := hide rfl
          go_wp2_with fail
          refine (getFlag_any r s q _ (unhide HRK) hs (by omega)).mono ?_
          rintro e w5 ⟨rfl, h4, h5⟩
          have HRQ := hide h4
          have HOQ := hide ((unhide HO).kept h5 (by simp [Value.ownBlock]; omega))
          have HGQ := hide ((unhide HGK).trans h5)
          clear h4 h5
          cases hfl : sbit s q
          · have HDC2 : Hid (decBitCell s true k 0 0 q = decBitTail s k 0 0 (q + 1)) := hide (by rw [unhide HDC, hfl]; rfl)
            clear hfl
            go_wp2_with fail
            refine (get_any r s (q + 1) _ _ (unhide HRQ) hs (by omega) (by rw [show Int.toNat 4 = 4 from rfl]; omega)).mono ?_
            rintro e w6 ⟨rfl, h4, h5⟩
            rw [show Int.toNat 4 = 4 from rfl] at *
            have HTL : Hid (decBitTail s k 0 0 (q + 1) = (⟨false, 0, ⟨(rdStr s (q + 1 + 4) 7 (rd s (q + 1) 4)).toArray⟩⟩, q + 1 + 4 + rd s (q + 1) 4 * 7)) := hide (by unfold decBitTail; rw [if_pos (unhide HK1)])
            have hr4 := rd_lt_pow s (q + 1) 4
            have h24 : (2 : Nat) ^ 4 = 16 := by decide
            generalize rd s (q + 1) 4 = z at *
            have hz16 : z ≤ 15 := by omega
            have HR6 := hide h4
            have HO6 := hide ((unhide HOQ).kept h5 (by simp [Value.ownBlock]; omega))
            have HG6 := hide ((unhide HGQ).trans h5)
            clear h4 h5 hr4 h24
            go_wp2_with fail
            refine (getString_any r s _ _ _ _ (unhide HR6) hs (by omega) (by omega) (by omega) (by omega) (by omega)).mono ?_
            rintro e w7 ⟨rfl, h4, h5⟩
            rw [show Int.toNat 7 = 7 from rfl, Int.toNat_natCast] at *
            have ho7 := (unhide HO6).kept h5 (by simp [Value.ownBlock]; omega)
            have HR7 := hide h4
            have HG7 := hide ((unhide HG6).trans h5)
            rw [show n - i = (n - (i + 1)) + 1 by omega] at ho7
            obtain ⟨⟨c0, c1, c2⟩, f0, f1, f2⟩ := row_cells ho7 (unhide HDL)
            have HST := hide (stored_str (unhide HDL) ⟨(rdStr s (q + 1 + 4) 7 z).toArray⟩ ho7)
            clear h4 h5 ho7
            go_wp2_with fail
            go_roundw
            case rel =>
              refine ⟨i + 1, by omega, by go_num, hide ?_, hide ?_, hide ?_⟩
              · rw [unhide HS1, unhide HDC2, unhide HTL]; exact unhide HST
              · rw [unhide HS2, unhide HDC2, unhide HTL]
                exact (unhide HR7).of_block (Below.heap_setCell _ _ _ _ (by show r ≠ w0.heap.size; omega))
              · exact grownBy_setNew (unhide HG7) (by show w.heap.size ≤ w0.heap.size; omega) _
            case measure => simp [intOf]; omega
          · have HDC2 : Hid (decBitCell s true k 0 0 q = (⟨true, 0, ByteArray.empty⟩, q + 1)) := hide (by rw [unhide HDC, hfl]; rfl)
            clear hfl
            have ho6 := unhide HOQ
            rw [show n - i = (n - (i + 1)) + 1 by omega] at ho6
            obtain ⟨⟨c0, c1, c2⟩, f0, f1, f2⟩ := row_cells ho6 (unhide HDL)
            have HST := hide (stored_null (unhide HDL) ho6)
            clear ho6
            go_wp2_with fail
            go_roundw
            case rel =>
              refine ⟨i + 1, by omega, by go_num, hide ?_, hide ?_, hide ?_⟩
              · rw [unhide HS1, unhide HDC2]; exact unhide HST
              · rw [unhide HS2, unhide HDC2]
                exact (unhide HRQ).of_block (Below.heap_setCell _ _ _ _ (by show r ≠ w0.heap.size; omega))
              · exact grownBy_setNew (unhide HGQ) (by show w.heap.size ≤ w0.heap.size; omega) _
            case measure => simp [intOf]; omega
      · obtain rfl : i = n := by omega
        have ho := unhide HO
        rw [Nat.sub_self, List.replicate_zero, List.append_nil] at ho
        have HO' := hide ho
        clear ho
        go_wp2
        go_ret
        exact ⟨_, rfl, by rw [unhide HDD, unhide HF]; exact unhide HO', unhide HGK⟩
  · have HF : Hid (frameAt s k (u + 1) = ((decCell s 0 (u + 1)).1.n, rd s (decCell s 0 (u + 1)).2 7, (decCell s 0 (u + 1)).2 + 7)) := hide (by unfold frameAt; rw [if_neg hk])
    have HK1 := hide hk
    have t1 : (k != 1) = true := by simp [hk]
    have t2 : (k == 1) = false := by simp [hk]
    clear hk
    go_wp2_with fail
    refine (getCell_any r s (u + 1) 0 w0 (unhide HR0) hs (by omega)).mono ?_
    rintro e w9 ⟨rfl, h4, h5⟩
    have hcl := decCell_le s 0 (u + 1)
    generalize (decCell s 0 (u + 1)).1 = c9 at *
    generalize (decCell s 0 (u + 1)).2 = p9 at *
    have HR9 := hide h4
    have HG9 := hide ((unhide HG0).trans h5)
    clear h4 h5
    have hfld := field_n c9.null c9.n c9.s
    go_wp2_with fail
    refine (get_any r s p9 _ w9 (unhide HR9) hs (by omega) (by rw [show Int.toNat 7 = 7 from rfl]; omega)).mono ?_
    rintro e w8 ⟨rfl, h4, h5⟩
    rw [show Int.toNat 7 = 7 from rfl] at *
    have hwd := rd_lt_pow s p9 7
    have h27 : (2 : Nat) ^ 7 = 128 := by decide
    generalize rd s p9 7 = width at *
    have hw127 : width ≤ 127 := by omega
    have HR8 := hide h4
    have HG8 := hide ((unhide HG9).trans h5)
    clear h4 h5 hwd h27 hfld
    generalize c9.n = least at *
    go_wp2_with (at_make; refine wpList_make_full _ rfl _ _ 22 rfl w.heap.size 37 i0 _ 3 Try.underlying22 hi hz0 hz1 _ _ _ _ n rfl rfl rfl rfl (by rw [hz2]; omega) (by unfold maxLen; omega) (by have := (unhide HG8).size; omega) ?_; intro w1 hown hgrow)
    rw [made_cells] at hown
    have HOWN := hide hown
    have HG := hide ((unhide HG8).trans (hgrow.but (some r)))
    have HR := hide ((unhide HR8).kept hgrow (by simp))
    have hsw := (unhide HG8).size
    clear hown hgrow
    go_wp2
    go_loopw [28] (fun c wr => ∃ i : Nat, i ≤ n ∧ c = .int .i64 i ∧ Hid (wr.ownsRow w.heap.size 37 3 (.slice (some ⟨w8.heap.size, 0, none⟩) n n) n (cellsL ((decBitN s nulls k least width (p9 + 7) i).1 ++ List.replicate (n - i) zeroCl))) ∧ Hid (Rdr wr r s (decBitN s nulls k least width (p9 + 7) i).2) ∧ Hid (w.grownBy wr (some r))) (fun c _ => n - (intOf c).toNat)
    case atStart => exact ⟨0, Nat.zero_le _, rfl, hide (by simpa [decBitN] using unhide HOWN), hide (by simpa [decBitN] using unhide HR), HG⟩
    case round =>
      obtain ⟨i, hi', rfl, HO, HRK, HGK⟩ := hrel
      by_cases hlt : i < n
      · have hlt' : (i : Int) < (n : Int) := by omega
        have hple := decBitN_le s nulls k least width (p9 + 7) i (by omega)
        have hil : i * 128 ≤ 255 * 128 := Nat.mul_le_mul_right _ (by omega)
        have hdl := decBitN_length s nulls k least width (p9 + 7) i
        have hsn : (decBitN s nulls k least width (p9 + 7) (i + 1)).1 = (decBitN s nulls k least width (p9 + 7) i).1 ++ [(decBitCell s nulls k least width (decBitN s nulls k least width (p9 + 7) i).2).1] := rfl
        have hsn2 : (decBitN s nulls k least width (p9 + 7) (i + 1)).2 = (decBitCell s nulls k least width (decBitN s nulls k least width (p9 + 7) i).2).2 := rfl
        generalize (decBitN s nulls k least width (p9 + 7) i).1 = A at *
        generalize (decBitN s nulls k least width (p9 + 7) i).2 = q at *
        have hqb : q ≤ 4000000 := by omega
        have HDL := hide hdl
        have HS1 := hide hsn
        have HS2 := hide hsn2
        clear hple hil hdl hsn hsn2
        cases nulls
        · have HDC : Hid (decBitCell s false k least width q = decBitTail s k least width q) := hide rfl
          have HRQ := HRK
          have HOQ := HO
          have HGQ := HGK
          go_wp2_with fail
          refine (get_any r s (q) _ _ (unhide HRQ) hs (by omega) (by rw [Int.toNat_natCast]; omega)).mono ?_
          rintro e w6 ⟨rfl, h4, h5⟩
          rw [Int.toNat_natCast] at *
          have HTL : Hid (decBitTail s k least width (q) = (⟨false, addW least (rd s (q) width), ByteArray.empty⟩, q + width)) := hide (by unfold decBitTail; rw [if_neg (unhide HK1)])
          have hr64 := rd_lt s (q) width
          have HADD := hide (conv_add least (rd s (q) width))
          generalize rd s (q) width = z at *
          have ho7 := (unhide HOQ).kept h5 (by simp [Value.ownBlock]; omega)
          have HR7 := hide h4
          have HG7 := hide ((unhide HGQ).trans h5)
          rw [show n - i = (n - (i + 1)) + 1 by omega] at ho7
          obtain ⟨⟨c0, c1, c2⟩, f0, f1, f2⟩ := row_cells ho7 (unhide HDL)
          have HST := hide (stored_num (unhide HDL) (addW least z) ho7)
          clear h4 h5 ho7
          go_wp2_with fail
          go_roundw
          case rel =>
            rw [unhide HADD]
            refine ⟨i + 1, by omega, by go_num, hide ?_, hide ?_, hide ?_⟩
            · rw [unhide HS1, unhide HDC, unhide HTL]; exact unhide HST
            · rw [unhide HS2, unhide HDC, unhide HTL]
              exact (unhide HR7).of_block (Below.heap_setCell _ _ _ _ (by show r ≠ w8.heap.size; omega))
            · exact grownBy_setNew (unhide HG7) (by show w.heap.size ≤ w8.heap.size; omega) _
          case measure => simp [intOf]; omega
        · have HDC : Hid (decBitCell s true k least width q = if sbit s q then (⟨true, 0, ByteArray.empty⟩, q + 1) else decBitTail s k least width (q + 1)) := hide rfl
          go_wp2_with fail
          refine (getFlag_any r s q _ (unhide HRK) hs (by omega)).mono ?_
          rintro e w5 ⟨rfl, h4, h5⟩
          have HRQ := hide h4
          have HOQ := hide ((unhide HO).kept h5 (by simp [Value.ownBlock]; omega))
          have HGQ := hide ((unhide HGK).trans h5)
          clear h4 h5
          cases hfl : sbit s q
          · have HDC2 : Hid (decBitCell s true k least width q = decBitTail s k least width (q + 1)) := hide (by rw [unhide HDC, hfl]; rfl)
            clear hfl
            go_wp2_with fail
            refine (get_any r s (q + 1) _ _ (unhide HRQ) hs (by omega) (by rw [Int.toNat_natCast]; omega)).mono ?_
            rintro e w6 ⟨rfl, h4, h5⟩
            rw [Int.toNat_natCast] at *
            have HTL : Hid (decBitTail s k least width (q + 1) = (⟨false, addW least (rd s (q + 1) width), ByteArray.empty⟩, q + 1 + width)) := hide (by unfold decBitTail; rw [if_neg (unhide HK1)])
            have hr64 := rd_lt s (q + 1) width
            have HADD := hide (conv_add least (rd s (q + 1) width))
            generalize rd s (q + 1) width = z at *
            have ho7 := (unhide HOQ).kept h5 (by simp [Value.ownBlock]; omega)
            have HR7 := hide h4
            have HG7 := hide ((unhide HGQ).trans h5)
            rw [show n - i = (n - (i + 1)) + 1 by omega] at ho7
            obtain ⟨⟨c0, c1, c2⟩, f0, f1, f2⟩ := row_cells ho7 (unhide HDL)
            have HST := hide (stored_num (unhide HDL) (addW least z) ho7)
            clear h4 h5 ho7
            go_wp2_with fail
            go_roundw
            case rel =>
              rw [unhide HADD]
              refine ⟨i + 1, by omega, by go_num, hide ?_, hide ?_, hide ?_⟩
              · rw [unhide HS1, unhide HDC2, unhide HTL]; exact unhide HST
              · rw [unhide HS2, unhide HDC2, unhide HTL]
                exact (unhide HR7).of_block (Below.heap_setCell _ _ _ _ (by show r ≠ w8.heap.size; omega))
              · exact grownBy_setNew (unhide HG7) (by show w.heap.size ≤ w8.heap.size; omega) _
            case measure => simp [intOf]; omega
          · have HDC2 : Hid (decBitCell s true k least width q = (⟨true, 0, ByteArray.empty⟩, q + 1)) := hide (by rw [unhide HDC, hfl]; rfl)
            clear hfl
            have ho6 := unhide HOQ
            rw [show n - i = (n - (i + 1)) + 1 by omega] at ho6
            obtain ⟨⟨c0, c1, c2⟩, f0, f1, f2⟩ := row_cells ho6 (unhide HDL)
            have HST := hide (stored_null (unhide HDL) ho6)
            clear ho6
            go_wp2_with fail
            go_roundw
            case rel =>
              refine ⟨i + 1, by omega, by go_num, hide ?_, hide ?_, hide ?_⟩
              · rw [unhide HS1, unhide HDC2]; exact unhide HST
              · rw [unhide HS2, unhide HDC2]
                exact (unhide HRQ).of_block (Below.heap_setCell _ _ _ _ (by show r ≠ w8.heap.size; omega))
              · exact grownBy_setNew (unhide HGQ) (by show w.heap.size ≤ w8.heap.size; omega) _
            case measure => simp [intOf]; omega
      · obtain rfl : i = n := by omega
        have ho := unhide HO
        rw [Nat.sub_self, List.replicate_zero, List.append_nil] at ho
        have HO' := hide ho
        clear ho
        go_wp2
        go_ret
        exact ⟨_, rfl, by rw [unhide HDD, unhide HF]; exact unhide HO', unhide HGK⟩

end Go.Proofs.Ytgoihalolhmmdaa
