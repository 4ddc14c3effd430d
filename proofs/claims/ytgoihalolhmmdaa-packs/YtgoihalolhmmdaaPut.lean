import Derived.Test.YtgoihalolhmmdaaProg
import Derived.Test.YtgoihalolhmmdaaWorld
import Derived.WalkKit
import Derived.WalkLawsBesides
import Derived.RegionTactic
import Derived.BigRegion
import Derived.KernelRfl
namespace Go.Proofs.Ytgoihalolhmmdaa
open Go.RowKit

theorem Try.info5 : (Try.prog.info? 5).map (fun i => (i.zero, i.size, i.bytes)) = some (some (.int .u8 0), 1, 1) := by kernel_rfl

set_option maxHeartbeats 800000 in
set_option maxRecDepth 1000000 in
theorem put_any (K : Nat → Prop) (p : Nat) (l : List Bool) (v wd : Nat) (w : World) (hw : Writer K w p l) (hv : v < 18446744073709551616) (hb : l.length + wd ≤ 1099511627776) :
    Calls Try.prog 17 #[.pointer (some ⟨p, 0, none⟩), .int .u64 (v : Int), .int .i64 (wd : Int)] w fun e w' => e = .returned (.tuple #[]) ∧ Writer K w' p (l ++ bitsOf v wd) ∧ Keeps K w w' := by
  obtain ⟨i0, hi, hz0, hz1, hz2⟩ := info_parts Try.info5
  go_enter Try.func17, Try.ntmps17
  go_wp2
  go_loopw [8] (fun c wr => ∃ k : Nat, k ≤ wd ∧ c = .int .i64 k ∧ Writer K wr p (l ++ bitsOf v k) ∧ Keeps K w wr) (fun c _ => wd - (intOf c).toNat)
  case atStart => exact ⟨0, Nat.zero_le _, rfl, by simpa [bitsOf_zero] using hw, Keeps.refl _ _⟩
  case round =>
    obtain ⟨k, hk, rfl, ⟨sv, bs, W⟩, hkeep⟩ := hrel
    by_cases hlt : k < wd
    · obtain ⟨n, hn⟩ : ∃ n, n = (l ++ bitsOf v k).length := ⟨_, rfl⟩
      have hnb : n ≤ 1099511627776 := by rw [hn, List.length_append, bitsOf_length]; omega
      have fin : ∀ (w2 : World) (g m cap : Nat) (bs2 : List Nat), WrRoom K w2 p g m cap bs2 (l ++ bitsOf v k) → Keeps K w w2 → ∀ old : Nat, old = bs2.getD (n / 8) 0 → old < 256 →
          Writer K ((w2.setCell ⟨g, n / 8, none⟩ (.int .u8 (bits BinOp.or IntKind.u8 (old : Int) (bits BinOp.and IntKind.u64 ((v : Int) / 2 ^ min k 64) 1 % 256 * 2 ^ (n % 8) % 256)))).setCell ⟨p, 1, none⟩ (.int .i64 ((n : Int) + 1))).drew p (l ++ bitsOf v (k + 1)) ∧
          Keeps K w ((w2.setCell ⟨g, n / 8, none⟩ (.int .u8 (bits BinOp.or IntKind.u8 (old : Int) (bits BinOp.and IntKind.u64 ((v : Int) / 2 ^ min k 64) 1 % 256 * 2 ^ (n % 8) % 256)))).setCell ⟨p, 1, none⟩ (.int .i64 ((n : Int) + 1))).drew := by
        intro w2 g m cap bs2 h2 hk2 old ho hob
        refine ⟨?_, h2.keeps hk2 _ _ _⟩
        rw [bitsOf_succ, ← List.append_assoc]
        subst hn
        exact h2.done (v.testBit k) _ (by rw [put_value old v k _ hob hv, ho]) _ (by omega)
      have HF := hide fin
      have HN := hide hn
      have HW := hide W
      by_cases h8 : n % 8 = 0
      · have t8 : ((n : Int) % 8 == 0) = true := by rw [beq_iff_eq]; omega
        have W1 := W.used
        rw [← hn] at W1
        have W0 := W.sl
        have F0 := W.f0
        have F1 := W.f1
        have hlen : bs.length ≤ 1099511627776 := by rw [W.lays.len, ← hn]; omega
        have HO := hide (W.own.alloc (.cells #[.int .u8 0] 5))
        clear W hw fin hn
        have hpw : p < wr.heap.size := World.block_lt_of_cell? _ _ W0
        go_wp2_with (at_builtin; refine wpList_append_mine _ rfl (.tmp 21) (.tmp 22) 44 rfl 0 5 i0 (.int .u8 0) 1 1 Try.underlying44 hi hz0 hz1 hz2 rfl (by decide) _ _ _ rfl (unhide HO) ⟨wr.heap.size, 0, none⟩ 1 1 [.int .u8 0] rfl rfl ?c1 ?c2 (by decide) ?c3 ?c4 (Nat.zero_le _) ?_)
        case c1 => intro j u hj; match j, hj with | 0, hj => simp at hj; subst hj; simp [Addr.add]
        case c2 => intro u hu; simp at hu; subst hu; rfl
        case c3 => unfold maxLen; omega
        case c4 => omega
        intro g cap w1 hown hgrow hblk
        obtain ⟨hK1, c0, e0, R⟩ := (unhide HW).grown (by rw [← unhide HN]; exact h8) hown hgrow (by simpa using hblk)
        obtain ⟨rc, rf, rl, rb⟩ := R.cell
        have R1 := R.used
        have R0 := R.sl
        have G0 := R.f0
        have G1 := R.f1
        rw [← unhide HN] at rc rf rl rb R1
        have hgp := R.apart
        have HR := hide R
        have HK2 := hide ((hkeep.trans hK1).setCell (p := ⟨p, 0, none⟩) R.kp (.slice (some ⟨g, 0, none⟩) (bs.length + 1) cap))
        clear hown hgrow hblk R hK1 HO W0 W1 F0 F1
        go_wp2_with fail
        generalize w1.setCell ⟨p, 0, none⟩ (.slice (some ⟨g, 0, none⟩) (bs.length + 1) cap) = w2 at *
        have hk2 : Keeps K w w2 := unhide HK2
        obtain ⟨old, hold⟩ : ∃ old, old = (bs ++ [0]).getD (n / 8) 0 := ⟨_, rfl⟩
        rw [← hold] at rc rb
        have HOL := hide hold
        have HK3 := hide hk2
        clear hold hk2 c0 e0
        have hlen' : (n : Int) / 8 < ((bs.length + 1 : Nat) : Int) := by omega
        have hq : ((n : Int) / 8).toNat = n / 8 := by omega
        go_region
        go_wp2_with fail
        go_roundw
        case rel =>
          have hfin := unhide HF w2 g _ cap (bs ++ [0]) (unhide HR) (unhide HK3) old (unhide HOL) rb
          rw [h8, Int.pow_zero, Int.mul_one, Int.emod_emod] at hfin
          exact ⟨k + 1, by omega, by go_num, hfin.1, hfin.2⟩
        case measure => simp [intOf]; omega
      · have t8 : ((n : Int) % 8 == 0) = false := by rw [beq_eq_false_iff_ne]; omega
        obtain ⟨g, cap, rfl, R⟩ := W.room (by rw [← hn]; exact h8)
        obtain ⟨rc, rf, rl, rb⟩ := R.cell
        have W1 := R.used
        have W0 := R.sl
        have F0 := R.f0
        have F1 := R.f1
        rw [← hn] at rc rf rl rb W1
        have hgp := R.apart
        have HR := hide R
        clear W hw fin hn R
        obtain ⟨old, hold⟩ : ∃ old, old = bs.getD (n / 8) 0 := ⟨_, rfl⟩
        rw [← hold] at rc rb
        have HO := hide hold
        clear hold
        have hlen' : (n : Int) / 8 < (bs.length : Int) := by omega
        have hq : ((n : Int) / 8).toNat = n / 8 := by omega
        go_wp2_with fail
        go_region
        go_wp2_with fail
        go_roundw
        case rel =>
          have hfin := unhide HF wr g _ cap bs (unhide HR) hkeep old (unhide HO) rb
          exact ⟨k + 1, by omega, by go_num, hfin.1, hfin.2⟩
        case measure => simp [intOf]; omega
    · obtain rfl : k = wd := by omega
      have HW := hide W
      clear W
      go_wp2
      go_end0
      exact ⟨rfl, ⟨_, _, unhide HW⟩, hkeep⟩

end Go.Proofs.Ytgoihalolhmmdaa
