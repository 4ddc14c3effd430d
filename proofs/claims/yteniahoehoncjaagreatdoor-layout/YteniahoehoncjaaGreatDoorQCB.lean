import Derived.Test.YteniahoehoncjaaGreatDoorQCA
import Derived.Test.YteniahoehoncjaaGreatDoorQBT
set_option maxHeartbeats 99999999
set_option maxRecDepth 100000
namespace Go.Proofs.YteniahoehoncjaaGreatDoor
open Go.RowKit
section
open Go.ChangeAt Go.ChangeMaps Go.ChangeShapes Go.Deep uZ Go.WideShapes
namespace nj
theorem contract (H:Type)(enc:TypeId×Value->H)(W:World)(base:Nat)(args:Array Value)(ds gs:List (DataW H))(before:List MemPlace)
 (hval:∀(j:Nat) t v,Tryz.f5.params[j]?=some t->args[j]?=some v->Value.okWide Tryz.prog W .any base t v)
 (hW:DataW.Whole enc Tryz.prog Tryz.f5.params.toList Rows.layoutSpec.vars false W args.toList ds gs before)
 (xb:(DataW.weightsEach Tryz.prog (Tryz.f5.params.toList++Rows.layoutSpec.plain.varTypes Tryz.prog) (ds++gs)).all (·<=reachBytes)=true) (hL:laidMetH Tryz.prog Rows.layoutRow.laid W) (hS:W.ShapedOpen Tryz.prog) :
 Calls Tryz.prog 5 args W λe W'=>∃v,e=.returned v/\Rows.layoutSpec.post enc Tryz.prog Tryz.f5 false true false false W args v W':=by
 have kd:=xb;have QF:=hW;obtain ⟨p,q,LR,hV,rfl,hfz,YP⟩:=hW;have hA:DataW.TrodAll enc Tryz.prog W 0 (λ_=>true) true Tryz.f5.params.toList args.toList ds p:=LR;rw [Tryz.params5] at hA hval kd;obtain ⟨v0,Dc,d0,ds0,p0,q0,acJ,rfl,rfl,h0,r0⟩:=trodAll_cons hA;obtain ⟨v1,EW,d1,ds1,p1,q1,rfl,rfl,rfl,h1,r1⟩:=trodAll_cons r0;obtain ⟨v2,vs2,d2,ds2,p2,q2,rfl,rfl,rfl,h2,r2⟩:=trodAll_cons r1;obtain ⟨rfl,rfl,rfl⟩:=trodAll_nil r2;obtain rfl:args=#[v0,v1,v2]:=by cases args;simp_all
 obtain ⟨rfl,rfl⟩:=trodVars_none hV;obtain ⟨f0,Yo⟩:=h0;obtain ⟨seg,pk,wd,bud,prune,push,rfl⟩:=xT (hval 0 23 v0 rfl rfl) Yo;obtain ⟨f1,Ju⟩:=h1;obtain ⟨Gn,Yt,Yu,UA,rJ,xk,rfl⟩:=xT (hval 1 23 v1 rfl rfl) Ju;obtain ⟨sa,sl,sc,rfl⟩:=okWide_slice Tryz.underlying24 (hval 2 24 v2 rfl rfl);have Bv:=h2;obtain ⟨f2,xN⟩:=Bv;have vQ:(Value.slice sa sl sc).cells.toList=[.slice sa sl sc]:=rfl;rw [vQ] at xN;obtain ⟨ops,gC,Pe,I5⟩:=xh xN;have hlen:ops.length<=9000000000000000000:=by
  rcases I5 with ⟨_,rfl⟩|⟨rest,hd⟩
  . simp
  . simp only at hd
    subst hd;have:=uY kd (j:=2) rfl rfl;omega
 clear LR;simp only [List.append_nil] at QF;refine (QH (a:=⟨seg,pk,wd,prune,push,bud⟩) (b:=⟨Gn,Yt,Yu,rJ,xk,UA⟩) (ops:=ops) (Yp hL hS) gC hlen Pe).mono λe W' ⟨he,hb⟩=>?_;subst he;have hT:DataW.TrodAll enc Tryz.prog W' 0 (λb=>decide (b<W.heap.size)) true [23,23,24] [.agg #[.int .i64 seg,.int .i64 pk,.int .i64 wd,.bool prune,.bool push,.int .i64 bud],.agg #[.int .i64 Gn,.int .i64 Yt,.int .i64 Yu,.bool rJ,.bool xk,.int .i64 UA],.slice sa sl sc] [d0,d1,d2] (p0++(p1++(p2++[]))):=(trodAll_cons_mk (pP laidOut abk abl ⟨f0,Yo⟩ hb (λx hx=>QF.lt x (by simp [hx]))) (trodAll_cons_mk (pP laidOut abk abl ⟨f1,Ju⟩ hb (λx hx=>QF.lt x (by simp [hx]))) (trodAll_cons_mk (pP laidOut afu afv h2 hb (λx hx=>QF.lt x (by simp [hx]))) trodAll_mk0)));simp only [List.append_nil] at hT;exact ⟨_,rfl,_,_,_,[],p0++(p1++p2),[],QF,trodAll_cons_mk (shut_bool Tryz.underlying4 _) trodAll_mk0,hT,rfl,hb.frame _,λh=>by cases h⟩
def su:Array Value:=#[.agg #[.int .i64 0,.int .i64 0,.int .i64 0,.bool false,.bool false,.int .i64 0],.agg #[.int .i64 0,.int .i64 0,.int .i64 0,.bool false,.bool false,.int .i64 0],.slice none 0 0]
theorem xj (os:Os):laidMetH Tryz.prog Rows.layoutRow.laid ((nh os).forCall (λ_ _=>0) ⟨#[],su,[]⟩).memory:=by
 rw [MakeChecks.laidMetH_plain _ _ _ (by kernel_rfl)];exact laidMet_of_run' 8 (by kernel_rfl) (by kernel_rfl)
end nj
end
end Go.Proofs.YteniahoehoncjaaGreatDoor
