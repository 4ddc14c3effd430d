import Derived.Test.YtcoaphfimellcaaGreatDoorQCA
import Derived.Test.YtcoaphfimellcaaGreatDoorQBT
set_option maxHeartbeats 0
set_option maxRecDepth 100000
namespace Go.Proofs.YtcoaphfimellcaaGreatDoor
open Go.RowKit
open _root_.Go.Proofs.Tryz
open Option renaming some→σ,none→ν
open Go.IntKind renaming i64→κ
open Go.Ending renaming returned→τ
open Go renaming World→ω,Value→υ
section
open Go.ChangeAt Go.ChangeMaps Go.ChangeShapes Go.Deep xJ Go.WideShapes
namespace ow
theorem contract(s:Type)(g:TypeId×υ->s)(a:ω)(ab:Nat)(b:Array υ)(l z:List (DataW s))(ac:List MemPlace)
 (j:∀(G:Nat) t e,f7.params[G]?=σ t->b[G]?=σ e->Value.okWide prog a .any ab t e)
 (D:DataW.Whole g prog f7.params.toList Rows.layoutSpec.vars false a b.toList l z ac)
 (WO:(DataW.weightsEach prog (f7.params.toList++Rows.layoutSpec.plain.varTypes prog) (l++z)).all (·<=reachBytes)=true) (hL:laidMetH prog Rows.layoutRow.laid a) (hS:a.ShapedOpen prog) :
 Calls prog 7 b a λy k=>∃e,y=τ e/\Rows.layoutSpec.post g prog f7 false true false false a b e k:=by
 have H:=WO;have c:=D;obtain⟨am,q,p,hV,rfl,ar,Un⟩:=D;have B:DataW.TrodAll g prog a 0 (λ_=>true) true f7.params.toList b.toList l am:=p;rw[params7]at B j H;obtain⟨T,yY,d0,ao,K,q0,an,rfl,rfl,h0,r0⟩:=trodAll_cons B;obtain⟨U,xm,d1,ap,L,q1,rfl,rfl,rfl,h1,r1⟩:=trodAll_cons r0;obtain⟨V,av,d2,aq,M,q2,rfl,rfl,rfl,A,r2⟩:=trodAll_cons r1;obtain⟨rfl,rfl,rfl⟩:=trodAll_nil r2;obtain rfl:b=#[T,U,V]:=by cases b;simp_all
 obtain⟨rfl,rfl⟩:=trodVars_none hV;obtain⟨f0,F⟩:=h0;obtain⟨Q,N,W,x,P,push,rfl⟩:=Ak (j 0 23 T rfl rfl) F;obtain⟨f1,v⟩:=h1;obtain⟨u,O,X,w,R,Y,rfl⟩:=Ak (j 1 23 U rfl rfl) v;obtain⟨m,o,n,rfl⟩:=okWide_slice underlying24 (j 2 24 V rfl rfl);have Z:=A;obtain⟨f2,r⟩:=Z;have yu:(Value.slice m o n).cells.toList=[.slice m o n]:=rfl;rw[yu]at r;obtain⟨I,eH,Rb,ad⟩:=zF r;have al:I.length<=9000000000000000000:=(by rcases ad with⟨_,rfl⟩|⟨rest,E⟩;{simp};simp only at E;subst E;have:=xI H (j:=2) rfl rfl;omega);clear p;simp only[List.append_nil]at c;refine(Uh (a:=⟨Q,N,W,P,push,x⟩) (b:=⟨u,O,X,R,Y,w⟩) (ops:=I) (adf hL hS) eH al Rb).mono λy k ⟨he,i⟩=>?_;subst he;have C:DataW.TrodAll g prog k 0 (λaa=>decide (aa<a.heap.size)) true [23,23,24] [.agg #[.int κ Q,.int κ N,.int κ W,.bool P,.bool push,.int κ x],.agg #[.int κ u,.int κ O,.int κ X,.bool R,.bool Y,.int κ w],.slice m o n] [d0,d1,d2] (K++(L++(M++[]))):=(trodAll_cons_mk (rr laidOut agt agu ⟨f0,F⟩ i (λf d=>c.lt f (by simp[d]))) (trodAll_cons_mk (rr laidOut agt agu ⟨f1,v⟩ i (λf d=>c.lt f (by simp[d]))) (trodAll_cons_mk (rr laidOut alb alc A i (λf d=>c.lt f (by simp[d]))) trodAll_mk0)));simp only[List.append_nil]at C;exact⟨_,rfl,_,_,_,[],K++(L++M),[],c,trodAll_cons_mk (shut_bool underlying4 _) trodAll_mk0,C,rfl,i.frame _,λh=>by cases h⟩
def rW:Array υ:=#[.agg #[.int κ 0,.int κ 0,.int κ 0,.bool false,.bool false,.int κ 0],.agg #[.int κ 0,.int κ 0,.int κ 0,.bool false,.bool false,.int κ 0],.slice ν 0 0]
noncomputable def Vy (os:Os):ω:=((lF os).forCall (λ_ _=>0) ⟨#[],rW,[]⟩).memory
theorem lm1(a:Os):(DataW.laidRun prog (Vy a) 8 (Rows.layoutRow.laid.map (·.1))).map (·.1)=σ Rows.layoutRow.laid:=by kernel_rfl
theorem lm2(a:Os):(DataW.laidRun prog (Vy a) 8 (Rows.layoutRow.laid.map (·.1))).map (λb=>Jb (b.2.map EG) 0)=σ true:=by kernel_rfl
theorem lm3(a:Os):(DataW.laidRun prog (Vy a) 8 (Rows.layoutRow.laid.map (·.1))).map (λb=>laidRowsB prog (Vy a) b.2)=σ true:=by kernel_rfl
theorem zG(a:Os):laidMetH prog Rows.layoutRow.laid ((lF a).forCall (λ_ _=>0) ⟨#[],rW,[]⟩).memory:=by rw[MakeChecks.laidMetH_plain _ _ _ (by kernel_rfl)];exact Ue 8 (lm1 a) (lm2 a) (lm3 a)
end ow
end
