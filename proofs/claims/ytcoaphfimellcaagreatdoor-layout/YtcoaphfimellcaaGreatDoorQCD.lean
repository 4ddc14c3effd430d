import Derived.Test.YtcoaphfimellcaaGreatDoorQCB
import Derived.Test.YtcoaphfimellcaaGreatDoorQCC
set_option maxHeartbeats 0
set_option maxRecDepth 100000
namespace Go.Proofs.YtcoaphfimellcaaGreatDoor
open Go.RowKit
open _root_.Go.Proofs.Tryz
open Option renaming some→σ
open Go.IntKind renaming i64→κ
open Go renaming Value→υ
section
open Go.ChangeAt Go.ChangeShapes Go.Deep xJ Go.WideShapes
namespace ow
theorem reads(c:Os){a:Type}(b:TypeId×υ->a):∃d,DataW.whole b prog ((lF c).forCall (λ_ _=>0) ⟨#[],ow.rW,[]⟩).memory f7.params.toList Rows.layoutSpec.vars false ow.rW.toList 8=σ ([.agg [.lit (.int κ 0),.lit (.int κ 0),.lit (.int κ 0),.lit (.bool false),.lit (.bool false),.lit (.int κ 0)],.agg [.lit (.int κ 0),.lit (.int κ 0),.lit (.int κ 0),.lit (.bool false),.lit (.bool false),.lit (.int κ 0)],.nil],[],d):=
 ⟨[],by kernel_rfl⟩
theorem lifted(b:Os)(t:b.Started)(c:Type)(a:TypeId×υ->c)(d:Stop.Interp) :
 ReturnsInHanded {} Tryz.checked b 7 .any ((OpenSpec.ofChange Rows.layoutSpec).preRow a prog f7 Rows.layoutRow.domain false Rows.layoutRow.laid) (((OpenSpec.ofChange Rows.layoutSpec).at d).post a prog f7 false true false false):=by
 obtain⟨v,r⟩:=reads b a;refine returnsInHanded_of_row (C:=Tryz.checked) (s:=OpenSpec.ofChange Rows.layoutSpec) own t (by kernel_rfl) func7
  (witness_row_at (enc:=a) (C:=Tryz.checked) false (lF b) ow.rW rfl (by kernel_rfl) (by kernel_rfl) (by kernel_rfl)
    (OpenSpec.preRow_of_cond 8 r (by kernel_rfl) (λu o=>by cases o) (by kernel_rfl) (ow.zG b))) ?_
 intro e g f j k i p n _ _ s l m _;exact ow.contract c a e g f j k i p n s l m
theorem said:Rows.LayoutSaid:=
 OpenClaim.holds_of_cond 7 f7 rfl rfl rfl rfl rfl rfl rfl ⟨rfl,rfl,rfl,rfl,rfl⟩ rfl rfl rfl rfl rfl (by kernel_rfl) func7 agy
  (jY (by kernel_rfl)) (by unfold Func.isWrapper;first|(rw[aF (by decide +kernel)];kernel_rfl)|(rw[aE (by decide +kernel)];exact⟨rfl,rfl⟩))
  (λd e b c _ a=>by rw[OpenClaim.pre_eq_preRow];exact lifted d e b c a)
theorem plain(b:FuncId)(fn:Func)(e:Tryz.pinned.checked.prog.funcNamed "quarry/quarrylaw.Layout"=σ b)(f:Tryz.pinned.checked.prog.funcs[b]?=σ fn) :
 true=Tryz.pinned.checked.prog.looks []/\∀(d:Nat) a,fn.params[d]?=σ a->Tryz.pinned.checked.prog.wantsStandIn a=false:=by
 obtain rfl:b=7:=bf ((show prog.funcNamed "quarry/quarrylaw.Layout"=σ 7 by kernel_rfl).symm.trans e) |>.symm;obtain rfl:fn=f7:=(bf (func7.symm.trans f)).symm;refine⟨by kernel_rfl,λd a c=>?_⟩;rw[params7]at c;have g:a∈[23,23,24]:=by simpa using nI c
 have i:([23,23,24].all λj=>!prog.wantsStandIn j)=true:=by kernel_rfl
 exact(show prog.wantsStandIn a=false by simpa using ez.1 i a g)
theorem card:Rows.LayoutCardSaid:=
 Claim7.holds_tied_plain_at .later [] _ _ _ _ said (λ_ a=>by cases a) (by kernel_rfl) (λ_ a=>by cases a) layout_row_tie rfl ⟨rfl,rfl⟩ (by kernel_rfl) rfl plain (by kernel_rfl)
end ow
theorem layout_holds:Rows.LayoutCardSaid:=ow.card
end
