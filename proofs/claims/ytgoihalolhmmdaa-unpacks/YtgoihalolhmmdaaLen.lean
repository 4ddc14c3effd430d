import Derived.Test.YtgoihalolhmmdaaProg
import Derived.Test.YtgoihalolhmmdaaWorld
import Derived.WalkKit
import Derived.WalkLawsBesides
import Derived.Laws.MathBits
import Derived.KernelRfl
namespace Go.Proofs.Ytgoihalolhmmdaa
open Go.RowKit

theorem len_close (b : Nat) (x : Int) (y : Nat) (hy : y = x.toNat / 2 ^ b) (hne : y ≠ 0) (h256 : y < 256) (hb : b ≤ 56) : wrap64 ((b : Int) + wrap64 ((bitLen y : Nat) : Int)) = ((bitLen x.toNat : Nat) : Int) := by
  have h8 := bitLen_le8 y h256
  have hs := bitLen_shift x.toNat b (by rw [← hy]; exact hne)
  rw [← hy] at hs
  rw [hs]
  unfold wrap64
  omega
theorem len_close0 (y : Nat) (h256 : y < 256) : wrap64 (wrap64 ((bitLen y : Nat) : Int)) = ((bitLen y : Nat) : Int) := by
  have h8 := bitLen_le8 y h256
  unfold wrap64
  omega

set_option maxHeartbeats 800000 in
set_option maxRecDepth 1000000 in
theorem len64_any (x : Int) (w : World) (h0 : 0 ≤ x) (h1 : x < 18446744073709551616) :
    Calls Try.prog 56 #[.int .u64 x] w fun e w' => e = .returned (.int .i64 (bitLen x.toNat : Int)) ∧ w = w' := by
  go_enter Try.func56, Try.ntmps56
  go_wp2
  all_goals (go_ret; refine ⟨congrArg Ending.returned (congrArg (Value.int IntKind.i64) ?_), rfl⟩)
  all_goals rw [len8tab_get]
  all_goals first
    | exact len_close 56 x _ (by omega) (by omega) (by omega) (by omega)
    | exact len_close 48 x _ (by omega) (by omega) (by omega) (by omega)
    | exact len_close 40 x _ (by omega) (by omega) (by omega) (by omega)
    | exact len_close 32 x _ (by omega) (by omega) (by omega) (by omega)
    | exact len_close 24 x _ (by omega) (by omega) (by omega) (by omega)
    | exact len_close 16 x _ (by omega) (by omega) (by omega) (by omega)
    | exact len_close 8 x _ (by omega) (by omega) (by omega) (by omega)
    | exact len_close0 _ (by omega)

end Go.Proofs.Ytgoihalolhmmdaa
