import Derived.Test.YtcoaphfimellcaaGreatDoorQBW
import Derived.Test.YtcoaphfimellcaaGreatDoorQBT
set_option maxHeartbeats 0
set_option maxRecDepth 100000
namespace Go.Proofs.YtcoaphfimellcaaGreatDoor
open Go.RowKit
open _root_.Go.Proofs.Tryz
open Option renaming some→σ,none→ν
open Go.IntKind renaming i64→κ
open Go.Ending renaming returned→τ
open Go renaming World→ω,Value→υ
section
open Go.ChangeAt Go.ChangeMaps Go.ChangeShapes Go.Deep xJ Go.WideShapes
namespace ou
theorem contract(r:Type)(f:TypeId×υ->r)(a:ω)(ab:Nat)(b:Array υ)(i w:List (DataW r))(ac:List MemPlace)
 (c:∀(D:Nat) t d,f6.params[D]?=σ t->b[D]?=σ d->Value.okWide prog a .any ab t d)
 (A:DataW.Whole f prog f6.params.toList Rows.budgetSpec.vars false a b.toList i w ac)
 (Z:(DataW.weightsEach prog (f6.params.toList++Rows.budgetSpec.plain.varTypes prog) (i++w)).all (·<=reachBytes)=true) (hL:laidMetH prog Rows.budgetRow.laid a) (hS:a.ShapedOpen prog) :
 Calls prog 6 b a λv g=>∃d,v=τ d/\Rows.budgetSpec.post f prog f6 false true false false a b d g:=by
 have F:=Z;have e:=A;obtain⟨am,q,p,hV,rfl,ax,Un⟩:=A;have y:DataW.TrodAll f prog a 0 (λ_=>true) true f6.params.toList b.toList i am:=p;rw[params6]at y c F;obtain⟨P,yY,d0,ao,H,q0,an,rfl,rfl,h0,r0⟩:=trodAll_cons y;obtain⟨Q,xm,d1,ap,I,q1,rfl,rfl,rfl,x,r1⟩:=trodAll_cons r0;obtain⟨R,aC,d2,aq,p2,q2,rfl,rfl,rfl,h2,r2⟩:=trodAll_cons r1;obtain⟨T,a0,d3,ar,p3,q3,rfl,rfl,rfl,h3,r3⟩:=trodAll_cons r2;obtain⟨U,a1,d4,av,p4,q4,rfl,rfl,rfl,h4,r4⟩:=trodAll_cons r3;obtain⟨rfl,rfl,rfl⟩:=trodAll_nil r4;obtain rfl:b=#[P,Q,R,T,U]:=by cases b;simp_all
 obtain⟨rfl,rfl⟩:=trodVars_none hV;obtain⟨f0,C⟩:=h0;obtain⟨O,K,W,u,L,push,rfl⟩:=Ak (c 0 23 P rfl rfl) C;obtain⟨l,n,m,rfl⟩:=okWide_slice underlying24 (c 1 24 Q rfl rfl);have X:=x;obtain⟨f1,s⟩:=X;have yu:(Value.slice l n m).cells.toList=[.slice l n m]:=rfl;rw[yu]at s;obtain⟨G,eH,Y,ad⟩:=zF s;obtain⟨M,rfl,rfl,rfl,V⟩:=open_string underlying9 (c 2 9 R rfl rfl) h2;obtain⟨N,rfl,rfl,rfl,w3⟩:=open_string underlying9 (c 3 9 T rfl rfl) h3;obtain⟨E,rfl,rfl,rfl,w4⟩:=open_int underlying3 (c 4 3 U rfl rfl) h4;have al:G.length<=9000000000000000000:=(by rcases ad with⟨_,rfl⟩|⟨rest,B⟩;{simp};simp only at B;subst B;have:=xI F (j:=1) rfl rfl;omega);clear p;simp only[List.append_nil]at e;refine(Ug (f:=⟨O,K,W,L,push,u⟩) (ops:=G) (adf hL hS) eH al Y V).mono λv g ⟨he,j⟩=>?_;subst he;have z:DataW.TrodAll f prog g 0 (λaa=>decide (aa<a.heap.size)) true [23,24,9,9,3] [.agg #[.int κ O,.int κ K,.int κ W,.bool L,.bool push,.int κ u],.slice l n m,.string M,.string N,.int κ E] [d0,d1,.lit (.string M.data.toList),.lit (.string N.data.toList),.lit (.int κ E)] (H++(I++([]++([]++([]++[]))))):=(trodAll_cons_mk (rr laidOut agt agu ⟨f0,C⟩ j (λo k=>e.lt o (by simp[k]))) (trodAll_cons_mk (rr laidOut alb alc x j (λo k=>e.lt o (by simp[k]))) (trodAll_cons_mk (shut_string underlying9 V) (trodAll_cons_mk (shut_string underlying9 w3) (trodAll_cons_mk (shut_int underlying3 w4) trodAll_mk0)))));simp only[List.append_nil]at z;exact⟨_,rfl,_,_,_,[],H++I,[],e,trodAll_cons_mk (shut_bool underlying4 _) trodAll_mk0,z,rfl,j.frame _,λh=>by cases h⟩
def rW:Array υ:=#[.agg #[.int κ 0,.int κ 0,.int κ 0,.bool false,.bool false,.int κ 0],.slice ν 0 0,.string ⟨#[]⟩,.string ⟨#[]⟩,.int κ 0]
noncomputable def Vy (os:Os):ω:=((lF os).forCall (λ_ _=>0) ⟨#[],rW,[]⟩).memory
theorem lm1(a:Os):(DataW.laidRun prog (Vy a) 8 (Rows.budgetRow.laid.map (·.1))).map (·.1)=σ Rows.budgetRow.laid:=by kernel_rfl
theorem lm2(a:Os):(DataW.laidRun prog (Vy a) 8 (Rows.budgetRow.laid.map (·.1))).map (λb=>Jb (b.2.map EG) 0)=σ true:=by kernel_rfl
theorem lm3(a:Os):(DataW.laidRun prog (Vy a) 8 (Rows.budgetRow.laid.map (·.1))).map (λb=>laidRowsB prog (Vy a) b.2)=σ true:=by kernel_rfl
theorem zG(a:Os):laidMetH prog Rows.budgetRow.laid ((lF a).forCall (λ_ _=>0) ⟨#[],rW,[]⟩).memory:=by rw[MakeChecks.laidMetH_plain _ _ _ (by kernel_rfl)];exact Ue 8 (lm1 a) (lm2 a) (lm3 a)
end ou
end
