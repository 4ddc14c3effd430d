import Derived.Test.YtcoaphfimellcaaGreatDoorFBG
import Derived.Deep.Strs
set_option maxHeartbeats 0
set_option maxRecDepth 100000
namespace Go.Proofs.YtcoaphfimellcaaGreatDoor
open Go.RowKit
open _root_.Go.Proofs.Tryz
open Option renaming some→σ
variable{w:World}{p:Nat}{m:Value}
section
open Go.ChangeAt Go.ChangeShapes Go.Deep Go.WideShapes
abbrev OpZ:=Int×ByteArray×ByteArray
def opZ(x:OpZ):List Value:=[.int .i64 x.1,.string x.2.1,.string x.2.2]
def opD{H:Type}(c:OpZ):DataW H:=.agg [.lit (.int .i64 c.1),.lit (.string c.2.1.data.toList),.lit (.string c.2.2.data.toList)]
theorem Tryz.Td:prog.cellsOf 3=1:=by kernel_rfl
theorem Tryz.aa9:prog.cellsOf 4=1:=by kernel_rfl
theorem Tryz.afD:prog.cellsOf 9=1:=by kernel_rfl
theorem Tryz.Yo:prog.cellsOf 56=3:=by kernel_rfl
theorem Tryz.abb:prog.cellsOf 23=6:=by kernel_rfl
theorem Tryz.ai9:prog.bytesOf 56=40:=by kernel_rfl
theorem aja{c:Type}{m:TypeId×Value->c}{b:List Value}{l:DataW c×List MemPlace}(n:DataW.trod m prog w 0 (λ_=>true) true p 56 b=σ l) :
 ∃a:OpZ,b=opZ a/\l.1=opD a/\a.2.1.size<=maxLen:=by
 obtain⟨B,C,D,v,rfl,k,g,i,j⟩:=trod_struct3 underlying56 n;rw[Tryz.Yo]at k;rw[Tryz.Td]at g;rw[Tryz.afD]at i j
 match b,k with
 |[x,y,z],_=>
   obtain⟨t,d,rfl,A⟩:=ry underlying3 g;obtain⟨r,e,rfl,o⟩:=vY underlying9 i;obtain⟨s,f,rfl,u⟩:=vY underlying9 j;simp at d e f;subst d e f;exact⟨⟨t,r,s⟩,rfl,rfl,o⟩
theorem Gs{v:Type}{G:TypeId×Value->v}{H:Nat}{u:DataW v×List MemPlace}(I:DataW.trod G prog w 0 (λ_=>true) true H 24 [m]=σ u) :
 ∃i:List OpZ,bz w 3 m i.length (i.flatMap opZ)/\(∀c∈i,c.2.1.size<=maxLen)/\((u.1=.nil/\i=[])\/∃rest,u.1=.slice (i.map opD) rest):=by
 rcases open_slice underlying24 I with⟨g,rfl⟩|⟨d,len,D,z,X,l,P,g,U,L,W,M,rfl,y⟩;{simp only[List.cons.injEq,and_true]at g;exact⟨[],⟨rfl,.inl ⟨rfl,_,_,g⟩⟩,by simp,.inl ⟨rfl,rfl⟩⟩}
 simp only[List.cons.injEq,and_true]at g;subst g;have O:len<=z:=by rw[M];simp;omega
 rw[Tryz.Yo]at y;have Q:Inhabited OpZ:=⟨(0,⟨#[]⟩,⟨#[]⟩)⟩;obtain⟨j,p⟩:=choose_lt (α:=OpZ) (n:=len) (p:=λb c=>w.cells? 0 (d.add (b*3)) 3=σ (opZ c)/\l b=opD c/\c.2.1.size<=maxLen) (λb e=>by
  obtain⟨T,f,k⟩:=y b (by omega);obtain⟨c,rfl,E,N⟩:=aja k;exact⟨c,f,E,N⟩)
 have s:∀b,b<len->∀a,a<3->w.cell? ((d.add (b*3)).add a)=(opZ (j b))[a]?:=(by intro b e a t;obtain⟨_,_,r⟩:=World.cells?_some (p b e).1;exact r a t);have C:0<len->d.spot=none:=(by intro o;have:=s 0 o 0 (by omega);rw[qZ]at this;have K:(d.add 0).add 0=d:=(by simp[Addr.add]);rw[K]at this;cases hs:d.spot with|none=>rfl|some Y=>simp only[World.cell?,hs]at this;split at this<;>simp[opZ]at this);refine⟨(List.range len).map j,?_,?_,.inr ⟨(List.range (z - len)).map (λa=>l (len+a)),?_⟩⟩;{refine⟨by rw[sE opZ 3 (λ_=>rfl)],?_⟩;by_cases o:len=0;{subst o;exact .inl ⟨by simp,_,_,rfl⟩};have A:=C (by omega);obtain⟨B,n,R⟩:=d;simp only at A;subst A;refine .inr ⟨B,n,D,by simp,by simpa using L,?_,λa t=>?_⟩;{have:=s 0 (by omega) 0 (by omega);simp only[Nat.zero_mul,Addr.add_lit,opZ]at this;exact block_lt_of_cell this};have V:a<len*3:=(by simpa using t);have x:a / 3<len:=(by omega);have f:=s (a / 3) x (a % 3) (by omega);rw[yM,yM]at f;have F:n+a / 3*3+a % 3=n+a:=(by omega);rw[F]at f;rw[f];have k:=ek opZ 3 (λ_=>rfl) ((List.range len).map j) (i:=a / 3) (a:=j (a / 3)) (by rw[aU,fK x];rfl) (j:=a % 3) (by omega);rw[show a / 3*3+a % 3=a by omega]at k;exact k.symm};{intro c r;obtain⟨b,e,rfl⟩:=cI.1 r;exact(p b (by simpa using e)).2.2};show DataW.slice ((List.range len).map l) _=_;congr 1;rw[gI];exact fJ (λb e=>(p b (by simpa using e)).2.1)
theorem Ev{a:Type}{d:List TypeId}{c:List (DataW a)}(e:(DataW.weightsEach prog d c).all (·<=reachBytes)=true){j:Nat}{b:List OpZ}{rest:List (DataW a)}(g:d[j]?=σ 24)(f:c[j]?=σ (.slice (b.map opD) rest)) :
 b.length*40<=140737488351232:=by have:=sized_slice e g f underlying24;rw[Tryz.ai9,aR]at this;have i:reachBytes=140737488351232:=rfl;omega
theorem Nt{o:Type}{a:TypeId×Value->o}{L:Nat}{aa:DataW o×List MemPlace}(Q:Value.okWide prog w .any L 23 m)(O:DataW.trod a prog w 0 (λ_=>true) true p 23 m.cells.toList=σ aa) :
 ∃Z X wd M:Int,∃Y push:Bool,m=.agg #[.int .i64 Z,.int .i64 X,.int .i64 wd,.bool Y,.bool push,.int .i64 M]:=by
 obtain⟨N,rfl,B⟩:=okWide_struct underlying23 Q;rw[Tryz.abb]at B;obtain⟨xs,c,_,rfl,hl,P,b⟩:=DataW.trod_struct underlying23 O;obtain⟨R⟩:=N
 match R,B,xs,P with
 |[d,e,f,g,i,j],_,[C,D,E,F,G,H],_=>
   have z:DataW.trod a prog w 0 (λ_=>true) true c 3 (([d,e,f,g,i,j].drop 0).take (prog.cellsOf 3))=σ C:=b 0 _ rfl;have r:DataW.trod a prog w 0 (λ_=>true) true c 3 (([d,e,f,g,i,j].drop 1).take (prog.cellsOf 3))=σ D:=b 1 _ rfl;have l:DataW.trod a prog w 0 (λ_=>true) true c 3 (([d,e,f,g,i,j].drop 2).take (prog.cellsOf 3))=σ E:=b 2 _ rfl;have n:DataW.trod a prog w 0 (λ_=>true) true c 4 (([d,e,f,g,i,j].drop 3).take (prog.cellsOf 4))=σ F:=b 3 _ rfl;have A:DataW.trod a prog w 0 (λ_=>true) true c 4 (([d,e,f,g,i,j].drop 4).take (prog.cellsOf 4))=σ G:=b 4 _ rfl;have k:DataW.trod a prog w 0 (λ_=>true) true c 3 (([d,e,f,g,i,j].drop 5).take (prog.cellsOf 3))=σ H:=b 5 _ rfl;rw[Tryz.Td]at z r l k;rw[Tryz.aa9]at n A;obtain⟨T,s,-,-⟩:=ry underlying3 (show _=σ C from z);obtain⟨U,t,-,-⟩:=ry underlying3 (show _=σ D from r);obtain⟨V,u,-,-⟩:=ry underlying3 (show _=σ E from l);obtain⟨I,v,-⟩:=DataW.trod_bool underlying4 (show _=σ F from n);obtain⟨K,x,-⟩:=DataW.trod_bool underlying4 (show _=σ G from A);obtain⟨W,y,-,-⟩:=ry underlying3 (show _=σ H from k);simp at s t u v x y;subst s t u v x y;exact⟨T,U,V,W,I,K,rfl⟩
def Nu:List Nat->Nat->Bool
 |[],_=>true
 |c::l,m=>!m.testBit c&&Nu l (m ||| 1 <<< c)
theorem KH:∀{d:List Nat} {f:Nat},Nu d f=true->d.Nodup/\∀e∈d,f.testBit e=false
 |[],_,_=>⟨.nil,λ_ b=>by cases b⟩
 |e::d,f,b=>by
   simp only[Nu,Bool.and_eq_true,Bool.not_eq_true']at b;obtain⟨j,k⟩:=KH b.2;have g:∀a∈d,f.testBit a=false/\a≠e:=λa c=>by
    have:=k a c;rw[Nat.testBit_or,Bool.or_eq_false_iff,Nat.testBit_shiftLeft]at this;refine⟨this.1,λi=>?_⟩;subst i;simp at this
   refine⟨List.nodup_cons.mpr ⟨λl=>(g e l).2 rfl,j⟩,λa c=>?_⟩;rcases bq.mp c with rfl|c
   . exact b.1
   . exact(g a c).1
def KI:MemPlace->Nat
 |.cell b off=>b*1024+off
 |.map m=>m*1024
theorem afE{c:Program}{d:List (String×DataW Unit)}(e:Nat)(g:(DataW.laidRun c w e (d.map (·.1))).map (·.1)=σ d)(i:(DataW.laidRun c w e (d.map (·.1))).map (λf=>Nu (f.2.map KI) 0)=σ true)
 (j:(DataW.laidRun c w e (d.map (·.1))).map (λf=>laidRowsB c w f.2)=σ true):laidMet c d w:=by refine laidMet_of_run' e g ?_;cases hx:DataW.laidRun c w e (d.map (·.1))with|none=>rw[hx]at g;cases g|some f=>rw[hx]at i j;simp only[Option.map_some,Option.some.injEq]at i j ⊢;have m:f.2.Nodup:=(ox.mp (KH i).1).imp (λ{a b} (l:KI a≠KI b) (k:a=b)=>l (by rw[k]));rw[j,bU m];rfl
end
