import Derived.Test.YtcoaphfimellcaaGreatDoorFBZ
import Derived.Test.YtcoaphfimellcaaGreatDoorFCA
set_option maxHeartbeats 0
set_option maxRecDepth 100000
namespace Go.Proofs.YtcoaphfimellcaaGreatDoor
open Go.RowKit
open _root_.Go.Proofs.Tryz
section
open Go.ChangeAt Go.ChangeShapes Go.Deep Go.WideShapes
namespace oY
theorem reads(c:Os){a:Type}(b:TypeId×Value->a):∃d,DataW.whole b prog ((oX c).forCall (λ_ _=>0) ⟨#[],oY.AP,[]⟩).memory f5.params.toList Rows.prefixSpec.vars false oY.AP.toList 8=some ([.agg [.lit (.int .i64 0),.lit (.int .i64 0),.lit (.int .i64 0),.lit (.bool false),.lit (.bool false),.lit (.int .i64 0)],.nil,.lit (.string []),.lit (.string []),.lit (.int .i64 0)],[],d):=
 ⟨[],by kernel_rfl⟩
theorem lifted(b:Os)(t:b.Started)(c:Type)(a:TypeId×Value->c)(d:Stop.Interp) :
 ReturnsInHanded {} Tryz.checked b 5 .any ((OpenSpec.ofChange Rows.prefixSpec).preRow a prog f5 Rows.prefixRow.domain false Rows.prefixRow.laid) (((OpenSpec.ofChange Rows.prefixSpec).at d).post a prog f5 false true false false):=by
 obtain⟨v,r⟩:=reads b a;refine returnsInHanded_of_row (C:=Tryz.checked) (s:=OpenSpec.ofChange Rows.prefixSpec) own t (by kernel_rfl) func5
  (witness_row_at (enc:=a) (C:=Tryz.checked) false (oX b) oY.AP rfl (by kernel_rfl) (by kernel_rfl) (by kernel_rfl)
    (OpenSpec.preRow_of_cond 8 r (by kernel_rfl) (λu o=>by cases o) (by kernel_rfl) (oY.KJ b))) ?_
 intro e g f j k i p n _ _ s l m _;exact oY.contract c a e g f j k i p n s l m
theorem said:Rows.PrefixSaid:=
 OpenClaim.holds_of_cond 5 f5 rfl rfl rfl rfl rfl rfl rfl ⟨rfl,rfl,rfl,rfl,rfl⟩ rfl rfl rfl rfl rfl (by kernel_rfl) func5 ajl
  (jF (by kernel_rfl)) (by unfold Func.isWrapper;first|(rw[aF (by decide +kernel)];kernel_rfl)|(rw[aE (by decide +kernel)];exact⟨rfl,rfl⟩))
  (λd e b c _ a=>by rw[OpenClaim.pre_eq_preRow];exact lifted d e b c a)
theorem plain(b:FuncId)(fn:Func)(e:Tryz.pinned.checked.prog.funcNamed "quarry/quarrylaw.Prefix"=some b)(f:Tryz.pinned.checked.prog.funcs[b]?=some fn) :
 true=Tryz.pinned.checked.prog.looks []/\∀(d:Nat) a,fn.params[d]?=some a->Tryz.pinned.checked.prog.wantsStandIn a=false:=by
 obtain rfl:b=5:=bk ((show prog.funcNamed "quarry/quarrylaw.Prefix"=some 5 by kernel_rfl).symm.trans e) |>.symm;obtain rfl:fn=f5:=(bk (func5.symm.trans f)).symm;refine⟨by kernel_rfl,λd a c=>?_⟩;rw[params5]at c;have g:a∈[23,24,9,9,3]:=by simpa using rM c
 have i:([23,24,9,9,3].all λj=>!prog.wantsStandIn j)=true:=by kernel_rfl
 exact(show prog.wantsStandIn a=false by simpa using eV.1 i a g)
theorem card:Rows.PrefixCardSaid:=
 Claim7.holds_tied_plain_at .later [] _ _ _ _ said (λ_ a=>by cases a) (by kernel_rfl) (λ_ a=>by cases a) prefix_row_tie rfl ⟨rfl,rfl⟩ (by kernel_rfl) rfl plain (by kernel_rfl)
end oY
theorem prefix_holds:Rows.PrefixCardSaid:=oY.card
end
