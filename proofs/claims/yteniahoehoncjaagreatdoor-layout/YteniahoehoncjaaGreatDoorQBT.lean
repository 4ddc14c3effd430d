import Derived.Test.YteniahoehoncjaaGreatDoorQBR
import Derived.Test.YteniahoehoncjaaGreatDoorQBS
import Derived.Test.YteniahoehoncjaaGreatDoorCards
import Derived.Test.YteniahoehoncjaaGreatDoorTie
import Derived.Deep.DeepHandedRow
import Derived.LaidMore
set_option maxHeartbeats 99999999
set_option maxRecDepth 100000
namespace Go.Proofs.YteniahoehoncjaaGreatDoor
open Go.RowKit
section
open Go.ChangeAt Go.ChangeMaps Go.ChangeShapes Go.Deep Go.WideShapes
namespace uZ
theorem own:ownKnob Tryz.prog.godebug=none:=by kernel_rfl
theorem laidOut:laidOutB Tryz.prog=true:=by kernel_rfl
theorem abk:Tryz.prog.readableRec 23=true:=by kernel_rfl
theorem abl:(23:TypeId)<Tryz.prog.types.size:=jm (by kernel_rfl)
theorem afu:Tryz.prog.readableRec 24=true:=by kernel_rfl
theorem afv:(24:TypeId)<Tryz.prog.types.size:=jm (by kernel_rfl)
theorem Yp {W:World}(hH:laidMetH Tryz.prog Rows.refusedRow.laid W)(hS:W.ShapedOpen Tryz.prog):qc W:=by
 obtain ⟨h1,h2,h3,h4,h5⟩:=QE hH hS;exact ⟨h1,h2,h3,h4,h5⟩
theorem contract (H:Type)(enc:TypeId×Value->H)(W:World)(base:Nat)(args:Array Value)(ds gs:List (DataW H))(before:List MemPlace)
 (hval:∀(j:Nat) t v,Tryz.f3.params[j]?=some t->args[j]?=some v->Value.okWide Tryz.prog W .any base t v)
 (hW:DataW.Whole enc Tryz.prog Tryz.f3.params.toList Rows.refusedSpec.vars false W args.toList ds gs before)
 (xb:(DataW.weightsEach Tryz.prog (Tryz.f3.params.toList++Rows.refusedSpec.plain.varTypes Tryz.prog) (ds++gs)).all (·<=reachBytes)=true) (hL:laidMetH Tryz.prog Rows.refusedRow.laid W) (hS:W.ShapedOpen Tryz.prog) :
 Calls Tryz.prog 3 args W λe W'=>∃v,e=.returned v/\Rows.refusedSpec.post enc Tryz.prog Tryz.f3 false true false false W args v W':=by
 have kd:=xb;have QF:=hW;obtain ⟨p,q,LR,hV,rfl,hfz,YP⟩:=hW;have hA:DataW.TrodAll enc Tryz.prog W 0 (λ_=>true) true Tryz.f3.params.toList args.toList ds p:=LR;rw [Tryz.params3] at hA hval kd;obtain ⟨v0,Dc,d0,ds0,p0,q0,acJ,rfl,rfl,h0,r0⟩:=trodAll_cons hA;obtain ⟨v1,EW,d1,ds1,p1,q1,rfl,rfl,rfl,h1,r1⟩:=trodAll_cons r0;obtain ⟨v2,vs2,d2,ds2,p2,q2,rfl,rfl,rfl,h2,r2⟩:=trodAll_cons r1;obtain ⟨v3,O1,d3,ds3,p3,q3,rfl,rfl,rfl,h3,r3⟩:=trodAll_cons r2;obtain ⟨v4,vs4,d4,ds4,p4,q4,rfl,rfl,rfl,h4,r4⟩:=trodAll_cons r3;obtain ⟨v5,vs5,d5,ds5,p5,q5,rfl,rfl,rfl,h5,r5⟩:=trodAll_cons r4;obtain ⟨rfl,rfl,rfl⟩:=trodAll_nil r5;obtain rfl:args=#[v0,v1,v2,v3,v4,v5]:=by cases args;simp_all
 obtain ⟨rfl,rfl⟩:=trodVars_none hV;obtain ⟨f0,Yo⟩:=h0;obtain ⟨seg,pk,wd,bud,prune,push,rfl⟩:=xT (hval 0 23 v0 rfl rfl) Yo;obtain ⟨sa,sl,sc,rfl⟩:=okWide_slice Tryz.underlying24 (hval 1 24 v1 rfl rfl);have sT:=h1;obtain ⟨f1,Ju⟩:=sT;have vQ:(Value.slice sa sl sc).cells.toList=[.slice sa sl sc]:=rfl;rw [vQ] at Ju;obtain ⟨ops,gC,Pe,sM⟩:=xh Ju;obtain ⟨s2,rfl,rfl,rfl,w2⟩:=open_string Tryz.underlying9 (hval 2 9 v2 rfl rfl) h2;obtain ⟨s3,rfl,rfl,rfl,w3⟩:=open_string Tryz.underlying9 (hval 3 9 v3 rfl rfl) h3;obtain ⟨s4,rfl,rfl,rfl,w4⟩:=open_string Tryz.underlying9 (hval 4 9 v4 rfl rfl) h4;obtain ⟨s5,rfl,rfl,rfl,w5⟩:=open_string Tryz.underlying9 (hval 5 9 v5 rfl rfl) h5;have hlen:ops.length<=9000000000000000000:=by
  rcases sM with ⟨_,rfl⟩|⟨rest,hd⟩
  . simp
  . simp only at hd
    subst hd;have:=uY kd (j:=1) rfl rfl;omega
 clear LR;simp only [List.append_nil] at QF;refine (NK (f:=⟨seg,pk,wd,prune,push,bud⟩) (ops:=ops) (Yp hL hS) gC hlen Pe w2 w4).mono λe W' ⟨he,hb⟩=>?_;subst he;have hT:DataW.TrodAll enc Tryz.prog W' 0 (λb=>decide (b<W.heap.size)) true [23,24,9,9,9,9] [.agg #[.int .i64 seg,.int .i64 pk,.int .i64 wd,.bool prune,.bool push,.int .i64 bud],.slice sa sl sc,.string s2,.string s3,.string s4,.string s5] [d0,d1,.lit (.string s2.data.toList),.lit (.string s3.data.toList),.lit (.string s4.data.toList),.lit (.string s5.data.toList)] (p0++(p1++([]++([]++([]++([]++[])))))):=
  trodAll_cons_mk (pP laidOut abk abl ⟨f0,Yo⟩ hb (λx hx=>QF.lt x (by simp [hx]))) (trodAll_cons_mk (pP laidOut afu afv h1 hb (λx hx=>QF.lt x (by simp [hx]))) (trodAll_cons_mk (shut_string Tryz.underlying9 w2) (trodAll_cons_mk (shut_string Tryz.underlying9 w3) (trodAll_cons_mk (shut_string Tryz.underlying9 w4) (trodAll_cons_mk (shut_string Tryz.underlying9 w5) trodAll_mk0)))))
 simp only [List.append_nil] at hT;exact ⟨_,rfl,_,_,_,[],p0++p1,[],QF,trodAll_cons_mk (shut_bool Tryz.underlying4 _) trodAll_mk0,hT,rfl,hb.frame _,λh=>by cases h⟩
noncomputable def nh (os:Os):World:=
 { World.doorLaid Tryz.prog 92 os with heap:=(World.doorLaid Tryz.prog 92 os).heap.modify 3 λ
  |.cells _ t frozen=>.cells (match (Go.Pinned.utf8First:DataW Unit) with|.agg l=>(l.map λ| .lit (.int k n)=>Value.int k n|_=>.nilFunc).toArray|_=>#[]) t frozen
  |o=>o }
def su:Array Value:=#[.agg #[.int .i64 0,.int .i64 0,.int .i64 0,.bool false,.bool false,.int .i64 0],.slice none 0 0,.string ⟨#[]⟩,.string ⟨#[]⟩,.string ⟨#[]⟩,.string ⟨#[]⟩]
theorem xj (os:Os):laidMetH Tryz.prog Rows.refusedRow.laid ((nh os).forCall (λ_ _=>0) ⟨#[],su,[]⟩).memory:=by
 rw [MakeChecks.laidMetH_plain _ _ _ (by kernel_rfl)];exact laidMet_of_run' 8 (by kernel_rfl) (by kernel_rfl)
end uZ
end
end Go.Proofs.YteniahoehoncjaaGreatDoor
