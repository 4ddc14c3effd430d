import Derived.Test.YtcoaphfimellcaaGreatDoorQBR
import Derived.Test.YtcoaphfimellcaaGreatDoorQBS
import Derived.Test.YtcoaphfimellcaaGreatDoorCards
import Derived.Test.YtcoaphfimellcaaGreatDoorTie
import Derived.Deep.DeepHandedRow
import Derived.LaidMore
set_option maxHeartbeats 0
set_option maxRecDepth 100000
namespace Go.Proofs.YtcoaphfimellcaaGreatDoor
open Go.RowKit
open _root_.Go.Proofs.Tryz
open Option renaming some→σ,none→ν
open Go.IntKind renaming i64→κ
open Go.Ending renaming returned→τ
open Go.Obj renaming cells→ξ
open Go renaming World→ω,Value→υ
section
open Go.ChangeAt Go.ChangeMaps Go.ChangeShapes Go.Deep Go.WideShapes
namespace xJ
theorem own:ownKnob prog.godebug=ν:=by kernel_rfl
theorem laidOut:laidOutB prog=true:=by kernel_rfl
theorem agt:prog.readableRec 23=true:=by kernel_rfl
theorem agu:(23:TypeId)<prog.types.size:=jY (by kernel_rfl)
theorem alb:prog.readableRec 24=true:=by kernel_rfl
theorem alc:(24:TypeId)<prog.types.size:=jY (by kernel_rfl)
theorem adf{a:ω}(g:laidMetH prog Rows.refusedRow.laid a)(i:a.ShapedOpen prog):rU a:=by obtain⟨b,c,d,e,f⟩:=Ud g i;exact⟨b,c,d,e,f⟩
theorem contract(r:Type)(f:TypeId×υ->r)(a:ω)(ab:Nat)(b:Array υ)(i w:List (DataW r))(ac:List MemPlace)
 (c:∀(D:Nat) t d,f3.params[D]?=σ t->b[D]?=σ d->Value.okWide prog a .any ab t d)
 (A:DataW.Whole f prog f3.params.toList Rows.refusedSpec.vars false a b.toList i w ac)
 (WO:(DataW.weightsEach prog (f3.params.toList++Rows.refusedSpec.plain.varTypes prog) (i++w)).all (·<=reachBytes)=true) (hL:laidMetH prog Rows.refusedRow.laid a) (hS:a.ShapedOpen prog) :
 Calls prog 3 b a λv g=>∃d,v=τ d/\Rows.refusedSpec.post f prog f3 false true false false a b d g:=by
 have E:=WO;have e:=A;obtain⟨am,q,p,hV,rfl,aC,Un⟩:=A;have y:DataW.TrodAll f prog a 0 (λ_=>true) true f3.params.toList b.toList i am:=p;rw[params3]at y c E;obtain⟨Q,yY,d0,ao,G,q0,an,rfl,rfl,h0,r0⟩:=trodAll_cons y;obtain⟨R,xm,d1,ap,H,q1,rfl,rfl,rfl,x,r1⟩:=trodAll_cons r0;obtain⟨T,a0,d2,aq,p2,q2,rfl,rfl,rfl,h2,r2⟩:=trodAll_cons r1;obtain⟨U,a1,d3,ar,p3,q3,rfl,rfl,rfl,h3,r3⟩:=trodAll_cons r2;obtain⟨V,a2,d4,av,p4,q4,rfl,rfl,rfl,h4,r4⟩:=trodAll_cons r3;obtain⟨W,a3,d5,ax,p5,q5,rfl,rfl,rfl,h5,r5⟩:=trodAll_cons r4;obtain⟨rfl,rfl,rfl⟩:=trodAll_nil r5;obtain rfl:b=#[Q,R,T,U,V,W]:=by cases b;simp_all
 obtain⟨rfl,rfl⟩:=trodVars_none hV;obtain⟨f0,C⟩:=h0;obtain⟨P,I,Z,u,K,push,rfl⟩:=Ak (c 0 23 Q rfl rfl) C;obtain⟨l,n,m,rfl⟩:=okWide_slice underlying24 (c 1 24 R rfl rfl);have Ap:=x;obtain⟨f1,s⟩:=Ap;have yu:(Value.slice l n m).cells.toList=[.slice l n m]:=rfl;rw[yu]at s;obtain⟨F,eH,Rb,ad⟩:=zF s;obtain⟨L,rfl,rfl,rfl,X⟩:=open_string underlying9 (c 2 9 T rfl rfl) h2;obtain⟨M,rfl,rfl,rfl,w3⟩:=open_string underlying9 (c 3 9 U rfl rfl) h3;obtain⟨N,rfl,rfl,rfl,Y⟩:=open_string underlying9 (c 4 9 V rfl rfl) h4;obtain⟨O,rfl,rfl,rfl,w5⟩:=open_string underlying9 (c 5 9 W rfl rfl) h5;have al:F.length<=9000000000000000000:=(by rcases ad with⟨_,rfl⟩|⟨rest,B⟩;{simp};simp only at B;subst B;have:=xI E (j:=1) rfl rfl;omega);clear p;simp only[List.append_nil]at e;refine(Qk (f:=⟨P,I,Z,K,push,u⟩) (ops:=F) (adf hL hS) eH al Rb X Y).mono λv g ⟨he,j⟩=>?_;subst he;have z:DataW.TrodAll f prog g 0 (λaa=>decide (aa<a.heap.size)) true [23,24,9,9,9,9] [.agg #[.int κ P,.int κ I,.int κ Z,.bool K,.bool push,.int κ u],.slice l n m,.string L,.string M,.string N,.string O] [d0,d1,.lit (.string L.data.toList),.lit (.string M.data.toList),.lit (.string N.data.toList),.lit (.string O.data.toList)] (G++(H++([]++([]++([]++([]++[])))))):=
  trodAll_cons_mk (rr laidOut agt agu ⟨f0,C⟩ j (λo k=>e.lt o (by simp[k]))) (trodAll_cons_mk (rr laidOut alb alc x j (λo k=>e.lt o (by simp[k]))) (trodAll_cons_mk (shut_string underlying9 X) (trodAll_cons_mk (shut_string underlying9 w3) (trodAll_cons_mk (shut_string underlying9 Y) (trodAll_cons_mk (shut_string underlying9 w5) trodAll_mk0)))))
 simp only[List.append_nil]at z;exact⟨_,rfl,_,_,_,[],G++H,[],e,trodAll_cons_mk (shut_bool underlying4 _) trodAll_mk0,z,rfl,j.frame _,λh=>by cases h⟩
noncomputable def lF (os:Os):ω:=
 { World.doorLaid prog 92 os with heap:=(World.doorLaid prog 92 os).heap.modify 3 λ
    |.cells _ t frozen=>ξ (match(Go.Pinned.utf8First:DataW Unit)with|.agg l=>(l.map λ| .lit (.int k n)=>Value.int k n|_=>.nilFunc).toArray|_=>#[]) t frozen
    |o=>o }
def rW:Array υ:=#[.agg #[.int κ 0,.int κ 0,.int κ 0,.bool false,.bool false,.int κ 0],.slice ν 0 0,.string ⟨#[]⟩,.string ⟨#[]⟩,.string ⟨#[]⟩,.string ⟨#[]⟩]
noncomputable def Vy (os:Os):ω:=((lF os).forCall (λ_ _=>0) ⟨#[],rW,[]⟩).memory
theorem lm1(a:Os):(DataW.laidRun prog (Vy a) 8 (Rows.refusedRow.laid.map (·.1))).map (·.1)=σ Rows.refusedRow.laid:=by kernel_rfl
theorem lm2(a:Os):(DataW.laidRun prog (Vy a) 8 (Rows.refusedRow.laid.map (·.1))).map (λb=>Jb (b.2.map EG) 0)=σ true:=by kernel_rfl
theorem lm3(a:Os):(DataW.laidRun prog (Vy a) 8 (Rows.refusedRow.laid.map (·.1))).map (λb=>laidRowsB prog (Vy a) b.2)=σ true:=by kernel_rfl
theorem zG(a:Os):laidMetH prog Rows.refusedRow.laid ((lF a).forCall (λ_ _=>0) ⟨#[],rW,[]⟩).memory:=by rw[MakeChecks.laidMetH_plain _ _ _ (by kernel_rfl)];exact Ue 8 (lm1 a) (lm2 a) (lm3 a)
end xJ
end
