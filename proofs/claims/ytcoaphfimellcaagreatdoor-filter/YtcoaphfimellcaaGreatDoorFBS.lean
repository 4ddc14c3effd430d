import Derived.Test.YtcoaphfimellcaaGreatDoorFBQ
import Derived.Test.YtcoaphfimellcaaGreatDoorFBR
import Derived.Test.YtcoaphfimellcaaGreatDoorCards
import Derived.Test.YtcoaphfimellcaaGreatDoorTie
import Derived.Deep.DeepHandedRow
import Derived.LaidMore
set_option maxHeartbeats 0
set_option maxRecDepth 100000
namespace Go.Proofs.YtcoaphfimellcaaGreatDoor
open Go.RowKit
open _root_.Go.Proofs.Tryz
section
open Go.ChangeAt Go.ChangeMaps Go.ChangeShapes Go.Deep Go.WideShapes
namespace Br
theorem own:ownKnob prog.godebug=none:=by kernel_rfl
theorem laidOut:laidOutB prog=true:=by kernel_rfl
theorem an4:prog.readableRec 23=true:=by kernel_rfl
theorem an5:(23:TypeId)<prog.types.size:=jF (by kernel_rfl)
theorem an6:prog.readableRec 24=true:=by kernel_rfl
theorem an7:(24:TypeId)<prog.types.size:=jF (by kernel_rfl)
theorem afF{a:World}(g:laidMetH prog Rows.filterRow.laid a)(i:a.ShapedOpen prog):rK a:=by obtain⟨b,c,d,e,f⟩:=KG g i;exact⟨b,c,d,e,f⟩
theorem contract(w:Type)(i:TypeId×Value->w)(a:World)(ac:Nat)(b:Array Value)(m z:List (DataW w))(ad:List MemPlace)
 (c:∀(G:Nat) t f,f4.params[G]?=some t->b[G]?=some f->Value.okWide prog a .any ac t f)
 (D:DataW.Whole i prog f4.params.toList Rows.filterSpec.vars false a b.toList m z ad)
 (aa:(DataW.weightsEach prog (f4.params.toList++Rows.filterSpec.plain.varTypes prog) (m++z)).all (·<=reachBytes)=true) (hL:laidMetH prog Rows.filterRow.laid a) (hS:a.ShapedOpen prog) :
 Calls prog 4 b a λg l=>∃f,g=.returned f/\Rows.filterSpec.post i prog f4 false true false false a b f l:=by
 have k:=aa;have j:=D;obtain⟨an,q,v,hV,rfl,a0,Yz⟩:=D;have B:DataW.TrodAll i prog a 0 (λ_=>true) true f4.params.toList b.toList m an:=v;rw[params4]at B c k;obtain⟨Q,A9,d0,ap,I,q0,ao,rfl,rfl,h0,r0⟩:=trodAll_cons B;obtain⟨R,yT,d1,aq,K,q1,rfl,rfl,rfl,A,r1⟩:=trodAll_cons r0;obtain⟨T,a1,d2,ar,p2,q2,rfl,rfl,rfl,h2,r2⟩:=trodAll_cons r1;obtain⟨U,a2,d3,av,p3,q3,rfl,rfl,rfl,h3,r3⟩:=trodAll_cons r2;obtain⟨V,a3,d4,ax,p4,q4,rfl,rfl,rfl,h4,r4⟩:=trodAll_cons r3;obtain⟨W,a4,d5,aC,p5,q5,rfl,rfl,rfl,h5,r5⟩:=trodAll_cons r4;obtain⟨rfl,rfl,rfl⟩:=trodAll_nil r5;obtain rfl:b=#[Q,R,T,U,V,W]:=by cases b;simp_all
 obtain⟨rfl,rfl⟩:=trodVars_none hV;obtain⟨f0,F⟩:=h0;obtain⟨P,L,Y,y,M,push,rfl⟩:=Nt (c 0 23 Q rfl rfl) F;obtain⟨p,s,r,rfl⟩:=okWide_slice underlying24 (c 1 24 R rfl rfl);have Z:=A;obtain⟨f1,x⟩:=Z;have Bz:(Value.slice p s r).cells.toList=[.slice p s r]:=rfl;rw[Bz]at x;obtain⟨H,fx,TX,al⟩:=Gs x;obtain⟨N,rfl,rfl,rfl,X⟩:=open_string underlying9 (c 2 9 T rfl rfl) h2;obtain⟨O,rfl,rfl,rfl,w3⟩:=open_string underlying9 (c 3 9 U rfl rfl) h3;obtain⟨d,rfl,rfl,rfl,w4⟩:=open_string underlying9 (c 4 9 V rfl rfl) h4;obtain⟨e,rfl,rfl,rfl,w5⟩:=open_string underlying9 (c 5 9 W rfl rfl) h5;have am:H.length<=9000000000000000000:=(by rcases al with⟨_,rfl⟩|⟨rest,E⟩;{simp};simp only at E;subst E;have:=Ev k (j:=1) rfl rfl;omega);have z4:d.size<=9000000000000000000:=(by have:=sized_string k (j:=4) rfl rfl;have g:reachBytes=140737488351232:=rfl;have e2:d.data.toList.length=d.size:=cW;omega);have z5:e.size<=9000000000000000000:=(by have:=sized_string k (j:=5) rfl rfl;have g:reachBytes=140737488351232:=rfl;have e2:e.data.toList.length=e.size:=cW;omega);clear v;simp only[List.append_nil]at j;refine(Ws (f:=⟨P,L,Y,M,push,y⟩) (ops:=H) (afF hL hS) fx am TX X z4 z5).mono λg l ⟨he,n⟩=>?_;subst he;have C:DataW.TrodAll i prog l 0 (λab=>decide (ab<a.heap.size)) true [23,24,9,9,9,9] [.agg #[.int .i64 P,.int .i64 L,.int .i64 Y,.bool M,.bool push,.int .i64 y],.slice p s r,.string N,.string O,.string d,.string e] [d0,d1,.lit (.string N.data.toList),.lit (.string O.data.toList),.lit (.string d.data.toList),.lit (.string e.data.toList)] (I++(K++([]++([]++([]++([]++[])))))):=
  trodAll_cons_mk (Below.trod laidOut an4 an5 ⟨f0,F⟩ n (λu o=>j.lt u (by simp[o]))) (trodAll_cons_mk (Below.trod laidOut an6 an7 A n (λu o=>j.lt u (by simp[o]))) (trodAll_cons_mk (shut_string underlying9 X) (trodAll_cons_mk (shut_string underlying9 w3) (trodAll_cons_mk (shut_string underlying9 w4) (trodAll_cons_mk (shut_string underlying9 w5) trodAll_mk0)))))
 simp only[List.append_nil]at C;exact⟨_,rfl,_,_,_,[],I++K,[],j,trodAll_cons_mk (shut_bool underlying4 _) trodAll_mk0,C,rfl,n.frame _,λh=>by cases h⟩
noncomputable def oX (os:Os):World:=
 { World.doorLaid prog 92 os with heap:=(World.doorLaid prog 92 os).heap.modify 3 λ
    |.cells _ t frozen=>.cells (match(Go.Pinned.utf8First:DataW Unit)with|.agg l=>(l.map λ| .lit (.int k n)=>Value.int k n|_=>.nilFunc).toArray|_=>#[]) t frozen
    |o=>o }
def AP:Array Value:=#[.agg #[.int .i64 0,.int .i64 0,.int .i64 0,.bool false,.bool false,.int .i64 0],.slice none 0 0,.string ⟨#[]⟩,.string ⟨#[]⟩,.string ⟨#[]⟩,.string ⟨#[]⟩]
noncomputable def lmW (os:Os):World:=((oX os).forCall (λ_ _=>0) ⟨#[],AP,[]⟩).memory
theorem lm1(a:Os):(DataW.laidRun prog (lmW a) 8 (Rows.filterRow.laid.map (·.1))).map (·.1)=some Rows.filterRow.laid:=by kernel_rfl
theorem lm2(a:Os):(DataW.laidRun prog (lmW a) 8 (Rows.filterRow.laid.map (·.1))).map (λb=>Nu (b.2.map KI) 0)=some true:=by kernel_rfl
theorem lm3(a:Os):(DataW.laidRun prog (lmW a) 8 (Rows.filterRow.laid.map (·.1))).map (λb=>laidRowsB prog (lmW a) b.2)=some true:=by kernel_rfl
theorem KJ(a:Os):laidMetH prog Rows.filterRow.laid ((oX a).forCall (λ_ _=>0) ⟨#[],AP,[]⟩).memory:=by rw[MakeChecks.laidMetH_plain _ _ _ (by kernel_rfl)];exact afE 8 (lm1 a) (lm2 a) (lm3 a)
end Br
end
