import Derived.Test.YtcoaphfimellcaaGreatDoorQBL
import Derived.Deep.Strs
set_option maxHeartbeats 0
set_option maxRecDepth 100000
namespace Go.Proofs.YtcoaphfimellcaaGreatDoor
open Go.RowKit
open _root_.Go.Proofs.Tryz
open Option renaming some→σ,none→ν
open Go.IntKind renaming i64→κ
open Go renaming World→ω,Value→υ
variable{w:ω}{p:Nat}{m:υ}
section
open Go.ChangeAt Go.ChangeShapes Go.Deep Go.WideShapes
abbrev OpZ:=Int×ByteArray×ByteArray
def opZ(x:OpZ):List υ:=[.int κ x.1,.string x.2.1,.string x.2.2]
def opD{H:Type}(c:OpZ):DataW H:=.agg [.lit (.int κ c.1),.lit (.string c.2.1.data.toList),.lit (.string c.2.2.data.toList)]
theorem Tryz.Qn:prog.cellsOf 3=1:=by kernel_rfl
theorem Tryz.YK:prog.cellsOf 4=1:=by kernel_rfl
theorem Tryz.adb:prog.cellsOf 9=1:=by kernel_rfl
theorem Tryz.Vx:prog.cellsOf 56=3:=by kernel_rfl
theorem Tryz.YL:prog.cellsOf 23=6:=by kernel_rfl
theorem Tryz.agr:prog.bytesOf 56=40:=by kernel_rfl
theorem ags{c:Type}{m:TypeId×υ->c}{b:List υ}{l:DataW c×List MemPlace}(n:DataW.trod m prog w 0 (λ_=>true) true p 56 b=σ l) :
 ∃a:OpZ,b=opZ a/\l.1=opD a/\a.2.1.size<=maxLen:=by
 obtain⟨B,C,D,v,rfl,k,g,i,j⟩:=trod_struct3 underlying56 n;rw[Tryz.Vx]at k;rw[Tryz.Qn]at g;rw[Tryz.adb]at i j
 match b,k with
 |[x,y,z],_=>
   obtain⟨t,d,rfl,A⟩:=qF underlying3 g;obtain⟨r,e,rfl,o⟩:=uT underlying9 i;obtain⟨s,f,rfl,u⟩:=uT underlying9 j;simp at d e f;subst d e f;exact⟨⟨t,r,s⟩,rfl,rfl,o⟩
theorem zF{v:Type}{G:TypeId×υ->v}{H:Nat}{u:DataW v×List MemPlace}(I:DataW.trod G prog w 0 (λ_=>true) true H 24 [m]=σ u) :
 ∃i:List OpZ,bu w 3 m i.length (i.flatMap opZ)/\(∀c∈i,c.2.1.size<=maxLen)/\((u.1=.nil/\i=[])\/∃rest,u.1=.slice (i.map opD) rest):=by
 rcases open_slice underlying24 I with⟨g,rfl⟩|⟨d,len,D,z,X,l,P,g,U,L,W,M,rfl,y⟩;{simp only[List.cons.injEq,and_true]at g;exact⟨[],⟨rfl,.inl ⟨rfl,_,_,g⟩⟩,by simp,.inl ⟨rfl,rfl⟩⟩}
 simp only[List.cons.injEq,and_true]at g;subst g;have O:len<=z:=by rw[M];simp;omega
 rw[Tryz.Vx]at y;have Q:Inhabited OpZ:=⟨(0,⟨#[]⟩,⟨#[]⟩)⟩;obtain⟨j,p⟩:=choose_lt (α:=OpZ) (n:=len) (p:=λb c=>w.cells? 0 (d.add (b*3)) 3=σ (opZ c)/\l b=opD c/\c.2.1.size<=maxLen) (λb e=>by
  obtain⟨T,f,k⟩:=y b (by omega);obtain⟨c,rfl,E,N⟩:=ags k;exact⟨c,f,E,N⟩)
 have s:∀b,b<len->∀a,a<3->w.cell? ((d.add (b*3)).add a)=(opZ (j b))[a]?:=(by intro b e a t;obtain⟨_,_,r⟩:=World.cells?_some (p b e).1;exact r a t);have C:0<len->d.spot=ν:=by
  intro o;have:=s 0 o 0 (by omega);rw[qx]at this;have K:(d.add 0).add 0=d:=by simp[Addr.add]
  rw[K]at this
  cases hs:d.spot with
  |none=>rfl
  |some Y=>
    simp only[World.cell?,hs]at this;split at this<;>simp[opZ]at this
 refine⟨(List.range len).map j,?_,?_,.inr ⟨(List.range (z - len)).map (λa=>l (len+a)),?_⟩⟩;{refine⟨by rw[rG opZ 3 (λ_=>rfl)],?_⟩;by_cases o:len=0;{subst o;exact .inl ⟨by simp,_,_,rfl⟩};have A:=C (by omega);obtain⟨B,n,R⟩:=d;simp only at A;subst A;refine .inr ⟨B,n,D,by simp,by simpa using L,?_,λa t=>?_⟩;{have:=s 0 (by omega) 0 (by omega);simp only[Nat.zero_mul,Addr.add_lit,opZ]at this;exact block_lt_of_cell this};have V:a<len*3:=(by simpa using t);have x:a / 3<len:=(by omega);have f:=s (a / 3) x (a % 3) (by omega);rw[xK,xK]at f;have F:n+a / 3*3+a % 3=n+a:=(by omega);rw[F]at f;rw[f];have k:=dy opZ 3 (λ_=>rfl) ((List.range len).map j) (i:=a / 3) (a:=j (a / 3)) (by rw[aV,eP x];rfl) (j:=a % 3) (by omega);rw[show a / 3*3+a % 3=a by omega]at k;exact k.symm};{intro c r;obtain⟨b,e,rfl⟩:=cE.1 r;exact(p b (by simpa using e)).2.2};show DataW.slice ((List.range len).map l) _=_;congr 1;rw[ig];exact eO (λb e=>(p b (by simpa using e)).2.1)
theorem xI{a:Type}{d:List TypeId}{c:List (DataW a)}(e:(DataW.weightsEach prog d c).all (·<=reachBytes)=true){j:Nat}{b:List OpZ}{rest:List (DataW a)}(g:d[j]?=σ 24)(f:c[j]?=σ (.slice (b.map opD) rest)) :
 b.length*40<=140737488351232:=by have:=sized_slice e g f underlying24;rw[Tryz.agr,aQ]at this;have i:reachBytes=140737488351232:=rfl;omega
theorem Ak{n:Type}{a:TypeId×υ->n}{L:Nat}{aa:DataW n×List MemPlace}(Q:Value.okWide prog w .any L 23 m)(O:DataW.trod a prog w 0 (λ_=>true) true p 23 m.cells.toList=σ aa) :
 ∃Z X wd M:Int,∃Y push:Bool,m=.agg #[.int κ Z,.int κ X,.int κ wd,.bool Y,.bool push,.int κ M]:=by
 obtain⟨N,rfl,A⟩:=okWide_struct underlying23 Q;rw[Tryz.YL]at A;obtain⟨xs,c,_,rfl,hl,P,b⟩:=DataW.trod_struct underlying23 O;obtain⟨R⟩:=N
 match R,A,xs,P with
 |[d,e,f,g,i,j],_,[B,C,D,E,F,G],_=>
   have y:DataW.trod a prog w 0 (λ_=>true) true c 3 (([d,e,f,g,i,j].drop 0).take (prog.cellsOf 3))=σ B:=b 0 _ rfl;have o:DataW.trod a prog w 0 (λ_=>true) true c 3 (([d,e,f,g,i,j].drop 1).take (prog.cellsOf 3))=σ C:=b 1 _ rfl;have k:DataW.trod a prog w 0 (λ_=>true) true c 3 (([d,e,f,g,i,j].drop 2).take (prog.cellsOf 3))=σ D:=b 2 _ rfl;have l:DataW.trod a prog w 0 (λ_=>true) true c 4 (([d,e,f,g,i,j].drop 3).take (prog.cellsOf 4))=σ E:=b 3 _ rfl;have z:DataW.trod a prog w 0 (λ_=>true) true c 4 (([d,e,f,g,i,j].drop 4).take (prog.cellsOf 4))=σ F:=b 4 _ rfl;have H:DataW.trod a prog w 0 (λ_=>true) true c 3 (([d,e,f,g,i,j].drop 5).take (prog.cellsOf 3))=σ G:=b 5 _ rfl;rw[Tryz.Qn]at y o k H;rw[Tryz.YK]at l z;obtain⟨T,r,-,-⟩:=qF underlying3 (show _=σ B from y);obtain⟨U,s,-,-⟩:=qF underlying3 (show _=σ C from o);obtain⟨V,t,-,-⟩:=qF underlying3 (show _=σ D from k);obtain⟨I,u,-⟩:=DataW.trod_bool underlying4 (show _=σ E from l);obtain⟨K,v,-⟩:=DataW.trod_bool underlying4 (show _=σ F from z);obtain⟨W,x,-,-⟩:=qF underlying3 (show _=σ G from H);simp at r s t u v x;subst r s t u v x;exact⟨T,U,V,W,I,K,rfl⟩
def Jb:List Nat->Nat->Bool
 |[],_=>true
 |c::l,m=>!m.testBit c&&Jb l (m ||| 1 <<< c)
theorem Jc:∀{d:List Nat} {f:Nat},Jb d f=true->d.Nodup/\∀e∈d,f.testBit e=false
 |[],_,_=>⟨.nil,λ_ b=>by cases b⟩
 |e::d,f,b=>by
   simp only[Jb,Bool.and_eq_true,Bool.not_eq_true']at b;obtain⟨j,k⟩:=Jc b.2;have g:∀a∈d,f.testBit a=false/\a≠e:=λa c=>by
    have:=k a c;rw[Nat.testBit_or,Bool.or_eq_false_iff,Nat.testBit_shiftLeft]at this;refine⟨this.1,λi=>?_⟩;subst i;simp at this
   refine⟨List.nodup_cons.mpr ⟨λl=>(g e l).2 rfl,j⟩,λa c=>?_⟩;rcases bF.mp c with rfl|c
   . exact b.1
   . exact(g a c).1
def EG:MemPlace->Nat
 |.cell b off=>b*1024+off
 |.map m=>m*1024
theorem Ue{c:Program}{d:List (String×DataW Unit)}(e:Nat)(g:(DataW.laidRun c w e (d.map (·.1))).map (·.1)=σ d)(i:(DataW.laidRun c w e (d.map (·.1))).map (λf=>Jb (f.2.map EG) 0)=σ true)
 (j:(DataW.laidRun c w e (d.map (·.1))).map (λf=>laidRowsB c w f.2)=σ true):laidMet c d w:=by
 refine laidMet_of_run' e g ?_
 cases hx:DataW.laidRun c w e (d.map (·.1))with
 |none=>rw[hx]at g;cases g
 |some f=>
   rw[hx]at i j;simp only[Option.map_some,Option.some.injEq]at i j ⊢;have m:f.2.Nodup:=(nP.mp (Jc i).1).imp (λ{a b} (l:EG a≠EG b) (k:a=b)=>l (by rw[k]));rw[j,bK m];rfl
end
