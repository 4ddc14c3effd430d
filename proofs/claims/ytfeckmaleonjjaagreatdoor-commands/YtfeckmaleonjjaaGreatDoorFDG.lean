import Derived.Test.YtfeckmaleonjjaaGreatDoorFDF
import Derived.Deep.Strs
set_option maxHeartbeats 0
set_option maxRecDepth 100000
namespace Go.Proofs.YtfeckmaleonjjaaGreatDoor
open Go.RowKit
open _root_.Go.Proofs.Tryz
open Option renaming some→σ
variable{w:World}{p:Nat}{m:Value}
section
open Go.ChangeAt Go.ChangeShapes Go.Deep Go.WideShapes
abbrev OpZ:=Int×Γ×Γ
def opZ(x:OpZ):Δ Value:=[.int .i64 x.1,.string x.2.1,.string x.2.2]
def opD{H:Type}(c:OpZ):DataW H:=.agg [.lit (.int .i64 c.1),.lit (.string c.2.1.data.toList),.lit (.string c.2.2.data.toList)]
theorem Tryz.R8:prog.cellsOf 3=1:=by kernel_rfl
theorem Tryz.aae:prog.cellsOf 4=1:=by kernel_rfl
theorem Tryz.aef:prog.cellsOf 9=1:=by kernel_rfl
theorem Tryz.Xp:prog.cellsOf 57=3:=by kernel_rfl
theorem Tryz.aaf:prog.cellsOf 23=6:=by kernel_rfl
theorem Tryz.ahr:prog.bytesOf 57=40:=by kernel_rfl
theorem ahs{c:Type}{m:TypeId×Value->c}{W:World}{b:Δ Value}{l:DataW c×Δ MemPlace}(n:DataW.trod m prog W 0 (λ_=>true) true p 57 b=σ l) :
 ∃a:OpZ,b=opZ a/\l.1=opD a/\a.2.1.size<=maxLen:=by
 obtain⟨A,B,C,v,rfl,k,g,i,j⟩:=trod_struct3 underlying57 n;rw[Tryz.Xp]at k;rw[Tryz.R8]at g;rw[Tryz.aef]at i j
 match b,k with
 |[w,x,y],_=>
   obtain⟨t,d,rfl,z⟩:=r6 underlying3 g;obtain⟨r,e,rfl,o⟩:=wu underlying9 i;obtain⟨s,f,rfl,u⟩:=wu underlying9 j;simp at d e f;subst d e f;exact⟨⟨t,r,s⟩,rfl,rfl,o⟩
theorem R9{v:Type}{F:TypeId×Value->v}{W:World}{G:Nat}{u:DataW v×Δ MemPlace}(H:DataW.trod F prog W 0 (λ_=>true) true G 24 [m]=σ u) :
 ∃i:Δ OpZ,aS W 3 m i.length (i.flatMap opZ)/\(∀c∈i,c.2.1.size<=maxLen)/\((u.1=.nil/\i=[])\/∃rest,u.1=.slice (i.map opD) rest):=by
 rcases open_slice underlying24 H with⟨g,rfl⟩|⟨d,len,C,z,X,l,O,g,T,K,V,L,rfl,y⟩;{simp only[List.cons.injEq,and_true]at g;exact⟨[],⟨rfl,.inl ⟨rfl,_,_,g⟩⟩,by simp,.inl ⟨rfl,rfl⟩⟩}
 simp only[List.cons.injEq,and_true]at g;subst g;have N:len<=z:=by rw[L];simp;omega
 rw[Tryz.Xp]at y;have P:Inhabited OpZ:=⟨(0,⟨#[]⟩,⟨#[]⟩)⟩;obtain⟨j,p⟩:=choose_lt (α:=OpZ) (n:=len) (p:=λb c=>W.cells? 0 (d.add (b*3)) 3=σ (opZ c)/\l b=opD c/\c.2.1.size<=maxLen) (λb e=>by
  obtain⟨R,f,k⟩:=y b (by omega);obtain⟨c,rfl,D,M⟩:=ahs k;exact⟨c,f,D,M⟩)
 have s:∀b,b<len->∀a,a<3->W.cell? ((d.add (b*3)).add a)=(opZ (j b))[a]?:=(by intro b e a t;obtain⟨_,_,r⟩:=World.cells?_some (p b e).1;exact r a t);have B:0<len->d.spot=none:=(by intro o;have:=s 0 o 0 (by omega);rw[oo]at this;have I:(d.add 0).add 0=d:=(by simp[Addr.add]);rw[I]at this;cases hs:d.spot with|none=>rfl|some Y=>simp only[World.cell?,hs]at this;split at this<;>simp[opZ]at this);refine⟨(List.range len).map j,?_,?_,.inr ⟨(List.range (z - len)).map (λa=>l (len+a)),?_⟩⟩;{refine⟨by rw[uP opZ 3 (λ_=>rfl)],?_⟩;by_cases o:len=0;{subst o;exact .inl ⟨by simp,_,_,rfl⟩};have w:=B (by omega);obtain⟨A,n,Q⟩:=d;simp only at w;subst w;refine .inr ⟨A,n,C,by simp,by simpa using K,?_,λa t=>?_⟩;{have:=s 0 (by omega) 0 (by omega);simp only[Nat.zero_mul,Addr.add_lit,opZ]at this;exact block_lt_of_cell this};have U:a<len*3:=(by simpa using t);have x:a / 3<len:=(by omega);have f:=s (a / 3) x (a % 3) (by omega);rw[yY,yY]at f;have E:n+a / 3*3+a % 3=n+a:=(by omega);rw[E]at f;rw[f];have k:=cV opZ 3 (λ_=>rfl) ((List.range len).map j) (i:=a / 3) (a:=j (a / 3)) (by rw[bp,lI x];rfl) (j:=a % 3) (by omega);rw[show a / 3*3+a % 3=a by omega]at k;exact k.symm};{intro c r;obtain⟨b,e,rfl⟩:=cP.1 r;exact(p b (by simpa using e)).2.2};show DataW.slice ((List.range len).map l) _=_;congr 1;rw[iL];exact fT (λb e=>(p b (by simpa using e)).2.1)
theorem Oy{a:Type}{d:Δ TypeId}{c:Δ (DataW a)}(e:(DataW.weightsEach prog d c).all (·<=reachBytes)=true){j:Nat}{b:Δ OpZ}{rest:Δ (DataW a)}(g:d[j]?=σ 24)(f:c[j]?=σ (.slice (b.map opD) rest)) :
 b.length*40<=140737488351232:=by have:=sized_slice e g f underlying24;rw[Tryz.ahr,bk]at this;have i:reachBytes=140737488351232:=rfl;omega
theorem MX{l:Type}{a:TypeId×Value->l}{W:World}{K:Nat}{aa:DataW l×Δ MemPlace}(P:Value.okWide prog W .any K 23 m)(N:DataW.trod a prog W 0 (λ_=>true) true p 23 m.cells.toList=σ aa) :
 ∃Z X wd L:Int,∃Y push:Bool,m=.agg #[.int .i64 Z,.int .i64 X,.int .i64 wd,.bool Y,.bool push,.int .i64 L]:=by
 obtain⟨M,rfl,A⟩:=okWide_struct underlying23 P;rw[Tryz.aaf]at A;obtain⟨xs,c,_,rfl,hl,O,b⟩:=DataW.trod_struct underlying23 N;obtain⟨Q⟩:=M
 match Q,A,xs,O with
 |[d,e,f,g,i,j],_,[B,C,D,E,F,G],_=>
   have y:DataW.trod a prog W 0 (λ_=>true) true c 3 (([d,e,f,g,i,j].drop 0).take (prog.cellsOf 3))=σ B:=b 0 _ rfl;have r:DataW.trod a prog W 0 (λ_=>true) true c 3 (([d,e,f,g,i,j].drop 1).take (prog.cellsOf 3))=σ C:=b 1 _ rfl;have k:DataW.trod a prog W 0 (λ_=>true) true c 3 (([d,e,f,g,i,j].drop 2).take (prog.cellsOf 3))=σ D:=b 2 _ rfl;have o:DataW.trod a prog W 0 (λ_=>true) true c 4 (([d,e,f,g,i,j].drop 3).take (prog.cellsOf 4))=σ E:=b 3 _ rfl;have z:DataW.trod a prog W 0 (λ_=>true) true c 4 (([d,e,f,g,i,j].drop 4).take (prog.cellsOf 4))=σ F:=b 4 _ rfl;have n:DataW.trod a prog W 0 (λ_=>true) true c 3 (([d,e,f,g,i,j].drop 5).take (prog.cellsOf 3))=σ G:=b 5 _ rfl;rw[Tryz.R8]at y r k n;rw[Tryz.aae]at o z;obtain⟨R,s,-,-⟩:=r6 underlying3 (show _=σ B from y);obtain⟨T,t,-,-⟩:=r6 underlying3 (show _=σ C from r);obtain⟨U,u,-,-⟩:=r6 underlying3 (show _=σ D from k);obtain⟨H,v,-⟩:=DataW.trod_bool underlying4 (show _=σ E from o);obtain⟨I,w,-⟩:=DataW.trod_bool underlying4 (show _=σ F from z);obtain⟨V,x,-,-⟩:=r6 underlying3 (show _=σ G from n);simp at s t u v w x;subst s t u v w x;exact⟨R,T,U,V,H,I,rfl⟩
def Si:Δ Nat->Nat->Bool
 |[],_=>true
 |c::l,m=>!m.testBit c&&Si l (m ||| 1 <<< c)
theorem Kd:∀{d:Δ Nat} {f:Nat},Si d f=true->d.Nodup/\∀e∈d,f.testBit e=false
 |[],_,_=>⟨.nil,λ_ b=>by cases b⟩
 |e::d,f,b=>by
   simp only[Si,Bool.and_eq_true,Bool.not_eq_true']at b;obtain⟨j,k⟩:=Kd b.2;have g:∀a∈d,f.testBit a=false/\a≠e:=λa c=>by
    have:=k a c;rw[Nat.testBit_or,tQ,Nat.testBit_shiftLeft]at this;refine⟨this.1,λi=>?_⟩;subst i;simp at this
   refine⟨List.nodup_cons.mpr ⟨λl=>(g e l).2 rfl,j⟩,λa c=>?_⟩;rcases bV.mp c with rfl|c
   . exact b.1
   . exact(g a c).1
def Oz:MemPlace->Nat
 |.cell b off=>b*1024+off
 |.map m=>m*1024
theorem ama{c:Program}{d:Δ (String×DataW Unit)}(e:Nat)(g:(DataW.laidRun c w e (d.map (·.1))).map (·.1)=σ d)(i:(DataW.laidRun c w e (d.map (·.1))).map (λf=>Si (f.2.map Oz) 0)=σ true)
 (j:(DataW.laidRun c w e (d.map (·.1))).map (λf=>laidRowsB c w f.2)=σ true):laidMet c d w:=by refine laidMet_of_run' e g ?_;cases hx:DataW.laidRun c w e (d.map (·.1))with|none=>rw[hx]at g;cases g|some f=>rw[hx]at i j;simp only[Option.map_some,Option.some.injEq]at i j ⊢;have l:f.2.Nodup:=(jX.mp (Kd i).1).imp (λ{a b} (m:Oz a≠Oz b) (k:a=b)=>m (by rw[k]));rw[j,cJ l];rfl
end
