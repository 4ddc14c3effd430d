import Derived.Test.YtcoaphfimellcaaGreatDoorFBY
import Derived.Test.YtcoaphfimellcaaGreatDoorFBR
import Derived.Test.YtcoaphfimellcaaGreatDoorCards
import Derived.Test.YtcoaphfimellcaaGreatDoorTie
import Derived.Deep.DeepHandedRow
import Derived.LaidMore
set_option maxHeartbeats 0
set_option maxRecDepth 100000
namespace Go.Proofs.YtcoaphfimellcaaGreatDoor
open Go.RowKit
open _root_.Go.Proofs.Tryz
section
open Go.ChangeAt Go.ChangeMaps Go.ChangeShapes Go.Deep Go.WideShapes
namespace oY
theorem own:ownKnob prog.godebug=none:=by kernel_rfl
theorem laidOut:laidOutB prog=true:=by kernel_rfl
theorem an4:prog.readableRec 23=true:=by kernel_rfl
theorem an5:(23:TypeId)<prog.types.size:=jF (by kernel_rfl)
theorem an6:prog.readableRec 24=true:=by kernel_rfl
theorem an7:(24:TypeId)<prog.types.size:=jF (by kernel_rfl)
theorem afF{a:World}(g:laidMetH prog Rows.prefixRow.laid a)(i:a.ShapedOpen prog):rK a:=by obtain⟨b,c,d,e,f⟩:=KG g i;exact⟨b,c,d,e,f⟩
theorem contract(r:Type)(e:TypeId×Value->r)(a:World)(ac:Nat)(b:Array Value)(i w:List (DataW r))(ad:List MemPlace)
 (c:∀(D:Nat) t d,f5.params[D]?=some t->b[D]?=some d->Value.okWide prog a .any ac t d)
 (A:DataW.Whole e prog f5.params.toList Rows.prefixSpec.vars false a b.toList i w ad)
 (aa:(DataW.weightsEach prog (f5.params.toList++Rows.prefixSpec.plain.varTypes prog) (i++w)).all (·<=reachBytes)=true) (hL:laidMetH prog Rows.prefixRow.laid a) (hS:a.ShapedOpen prog) :
 Calls prog 5 b a λv g=>∃d,v=.returned d/\Rows.prefixSpec.post e prog f5 false true false false a b d g:=by
 have G:=aa;have f:=A;obtain⟨an,q,p,hV,rfl,aC,Yz⟩:=A;have y:DataW.TrodAll e prog a 0 (λ_=>true) true f5.params.toList b.toList i an:=p;rw[params5]at y c G;obtain⟨P,A9,d0,ap,H,q0,ao,rfl,rfl,h0,r0⟩:=trodAll_cons y;obtain⟨Q,yT,d1,aq,I,q1,rfl,rfl,rfl,x,r1⟩:=trodAll_cons r0;obtain⟨R,a0,d2,ar,p2,q2,rfl,rfl,rfl,h2,r2⟩:=trodAll_cons r1;obtain⟨T,a1,d3,av,p3,q3,rfl,rfl,rfl,h3,r3⟩:=trodAll_cons r2;obtain⟨U,a2,d4,ax,p4,q4,rfl,rfl,rfl,h4,r4⟩:=trodAll_cons r3;obtain⟨rfl,rfl,rfl⟩:=trodAll_nil r4;obtain rfl:b=#[P,Q,R,T,U]:=by cases b;simp_all
 obtain⟨rfl,rfl⟩:=trodVars_none hV;obtain⟨f0,C⟩:=h0;obtain⟨O,K,X,u,L,push,rfl⟩:=Nt (c 0 23 P rfl rfl) C;obtain⟨l,n,m,rfl⟩:=okWide_slice underlying24 (c 1 24 Q rfl rfl);have Y:=x;obtain⟨f1,s⟩:=Y;have Z:(Value.slice l n m).cells.toList=[.slice l n m]:=rfl;rw[Z]at s;obtain⟨F,fx,TX,al⟩:=Gs s;obtain⟨M,rfl,rfl,rfl,V⟩:=open_string underlying9 (c 2 9 R rfl rfl) h2;obtain⟨N,rfl,rfl,rfl,w3⟩:=open_string underlying9 (c 3 9 T rfl rfl) h3;obtain⟨E,rfl,rfl,rfl,W⟩:=open_int underlying3 (c 4 3 U rfl rfl) h4;have am:F.length<=9000000000000000000:=(by rcases al with⟨_,rfl⟩|⟨rest,B⟩;{simp};simp only at B;subst B;have:=Ev G (j:=1) rfl rfl;omega);clear p;simp only[List.append_nil]at f;refine(Wz (f:=⟨O,K,X,L,push,u⟩) (ops:=F) (afF hL hS) fx am TX V (jF (Bool.and_eq_true_iff.1 W).2)).mono λv g ⟨he,j⟩=>?_;subst he;have z:DataW.TrodAll e prog g 0 (λab=>decide (ab<a.heap.size)) true [23,24,9,9,3] [.agg #[.int .i64 O,.int .i64 K,.int .i64 X,.bool L,.bool push,.int .i64 u],.slice l n m,.string M,.string N,.int .i64 E] [d0,d1,.lit (.string M.data.toList),.lit (.string N.data.toList),.lit (.int .i64 E)] (H++(I++([]++([]++([]++[]))))):=(trodAll_cons_mk (Below.trod laidOut an4 an5 ⟨f0,C⟩ j (λo k=>f.lt o (by simp[k]))) (trodAll_cons_mk (Below.trod laidOut an6 an7 x j (λo k=>f.lt o (by simp[k]))) (trodAll_cons_mk (shut_string underlying9 V) (trodAll_cons_mk (shut_string underlying9 w3) (trodAll_cons_mk (shut_int underlying3 W) trodAll_mk0)))));simp only[List.append_nil]at z;exact⟨_,rfl,_,_,_,[],H++I,[],f,trodAll_cons_mk (shut_bool underlying4 _) trodAll_mk0,z,rfl,j.frame _,λh=>by cases h⟩
noncomputable def oX (os:Os):World:=
 { World.doorLaid prog 92 os with heap:=(World.doorLaid prog 92 os).heap.modify 3 λ
    |.cells _ t frozen=>.cells (match(Go.Pinned.utf8First:DataW Unit)with|.agg l=>(l.map λ| .lit (.int k n)=>Value.int k n|_=>.nilFunc).toArray|_=>#[]) t frozen
    |o=>o }
def AP:Array Value:=#[.agg #[.int .i64 0,.int .i64 0,.int .i64 0,.bool false,.bool false,.int .i64 0],.slice none 0 0,.string ⟨#[]⟩,.string ⟨#[]⟩,.int .i64 0]
noncomputable def lmW (os:Os):World:=((oX os).forCall (λ_ _=>0) ⟨#[],AP,[]⟩).memory
theorem lm1(a:Os):(DataW.laidRun prog (lmW a) 8 (Rows.prefixRow.laid.map (·.1))).map (·.1)=some Rows.prefixRow.laid:=by kernel_rfl
theorem lm2(a:Os):(DataW.laidRun prog (lmW a) 8 (Rows.prefixRow.laid.map (·.1))).map (λb=>Nu (b.2.map KI) 0)=some true:=by kernel_rfl
theorem lm3(a:Os):(DataW.laidRun prog (lmW a) 8 (Rows.prefixRow.laid.map (·.1))).map (λb=>laidRowsB prog (lmW a) b.2)=some true:=by kernel_rfl
theorem KJ(a:Os):laidMetH prog Rows.prefixRow.laid ((oX a).forCall (λ_ _=>0) ⟨#[],AP,[]⟩).memory:=by rw[MakeChecks.laidMetH_plain _ _ _ (by kernel_rfl)];exact afE 8 (lm1 a) (lm2 a) (lm3 a)
end oY
end
