import Derived.Test.YtcoaphfimellcaaGreatDoorQAE
import Derived.Test.YtcoaphfimellcaaGreatDoorQBM
import Derived.Maps.Ext
import Derived.Deep.LoopGhost
set_option maxHeartbeats 0
set_option maxRecDepth 100000
namespace Go.Proofs.YtcoaphfimellcaaGreatDoor
open Go.RowKit
open _root_.Go.Proofs.Tryz
open Option renaming some→σ,none→ν
open Go.Ending renaming returned→τ
open Go renaming World→ω,Value→υ
variable{w:υ}{p x:Nat}{m:ω}
section
open Go.Maps
abbrev GrV:=(Option Addr×Nat×Nat)×(Nat×Array Value)
def XW(c:GrV):υ:=.agg #[.slice c.1.1 c.1.2.1 c.1.2.2,.func (.func c.2.1) #[] c.2.2]
def mkK(x:ByteArray×ByteArray):υ:=.agg #[.string x.1,.string x.2]
noncomputable def xY (v:υ):Option (DataW υ×List MemPlace):=@ite _ (∃c,v=XW c) (Classical.propDecidable _) (σ (.held v,[])) ν
theorem Ev{b:DataW υ×List MemPlace}(a:xY w=σ b):(∃c,w=XW c)/\b=(.held w,[]):=by unfold xY at a;split at a;{rename_i d;exact⟨d,(bf a).symm⟩};cases a
theorem ab4(a:GrV):xY (XW a)=σ (.held (XW a),[]):=by unfold xY;rw[aF ⟨a,rfl⟩]
theorem Tv{b:Program}(s:b.types.size=p+1)
 (g:b.underlying 198=σ (TypeDesc.struct #[{ name:= "user",type:=9,offset:=0,embedded:=false,tag:= "",pkgPath:= "quarry/quarry",byteOffset:=0 },{ name:= "table",type:=9,offset:=1,embedded:=false,tag:= "",pkgPath:= "quarry/quarry",byteOffset:=16 }]))
 (o:b.underlying 9=σ .string) (r:b.keyType 198=true) (m:b.cellsOf 198=2) (l:b.cellsOf 9=1)
  {kl:Lit} (a:keyOf b 198 w=σ kl):∃d:ByteArray×ByteArray,w=mkK d/\kl=gk d.1 d.2/\d.1.size<=maxLen/\d.2.size<=maxLen:=by
 unfold keyOf at a;rw[g]at a;simp only[r,Bool.true_and]at a;split at a
 .rename_i e
  unfold Value.formed at e
  cases w<;>simp[g]at e
  rename_i n;rw[m]at e;obtain⟨i⟩:=n
  match i,e with
  |[j,k],_=>
    simp[Value.cells,Program.keyLits,s,g,o,l]at a
    cases j<;>(try(exfalso;revert a;simp;done))
    case string s1 _=>
     by_cases c:s1.size<=maxLen
     . cases k<;>(try(exfalso;revert a;simp[c];done))
       case string s2 _=>
        by_cases f:s2.size<=maxLen
        . simp[c,f]at a
          obtain⟨i,⟨-,rfl⟩,rfl⟩:=a;exact⟨(s1,s2),rfl,rfl,c,f⟩
        . exfalso;revert a;simp[c,f]
     . exfalso;revert a;simp[c]
 cases a
theorem Vg{kl:Lit}(b:keyOf prog 198 w=σ kl):∃a:ByteArray×ByteArray,w=mkK a/\kl=gk a.1 a.2/\a.1.size<=maxLen/\a.2.size<=maxLen:=by obtain⟨d,c⟩:=qP.2 (du (aK _) Tryz.abW);exact Tv c underlying198 underlying9 Tryz.Ld Tryz.Vc S.Tryz.RB b
theorem IK{g:Nat}{I:DataW υ}{cb:Array υ}(R:m.ownsMap prog 198 xY p x I)(n:Lit->DataW υ->Bool)(eg:∀Q m,(callFunc g Q).run prog m=.ok (.enter g Q) m)
 (N:∀(v:ω) (b:ByteArray×ByteArray) (T:GrV),m.grownBy v (σ p)->b.1.size<=maxLen->b.2.size<=maxLen->Calls prog g (#[mkK b,XW T]++cb) v λi o=>i=τ (.bool (n (gk b.1 b.2) (.held (XW T))))/\v.grownBy o ν) :
 Calls prog 274 #[.map (σ p),.func (.func g) #[] cb] m λi o=>i=τ (.tuple #[])/\o.ownsMap prog 198 xY p x (Lib.deleteFuncD n I)/\m.grownBy o (σ p):=by
 obtain⟨ao,rfl,H,aa⟩:=R.entries Tryz.sT;have HD:=ak N;clear N;go_in;go_wp2_with(first
  | (at_range;refine wpList_range_own _ rfl _ 71 rfl 198 143 Tryz.sT underlying71 xY p x _ rfl R ?_;intro w0 ac YT ax)
  |go_in)
 go_frame;go_loopw[8] (λ_ wr=>∃(left:Lit->Bool) (U:Nat),wr.ranges prog 198 xY p m.heap.size x (Fk n ao left) left U/\m.grownBy wr (σ p)) (λ_ wr=>wr.rangeLeft p m.heap.size);case atStart=>exact⟨_,_,by rw[Fk_start aa];exact ac,YT.but _⟩
 case round=>
  obtain⟨left,U,j,L⟩:=hrel;go_wp2_with(first
   | (at_next;refine wpList_next_ranges _ rfl _ rfl 198 Tryz.sT xY mkK XW (λaC kl E=>by obtain⟨b,h1,-⟩:=Vg E;exact⟨b,h1⟩) (λa1 a2 E=>(Ev E).1) p m.heap.size x _ _ _ rfl j ?_ ?_)
   |go_in)
  {intro _ D3;go_wp2;go_end0;exact⟨rfl,by rw[<- Fk_end D3];exact j.owns,L⟩}
  intro d e B D C f k kl yd yp r ad c W hv F y cL EU Z ap;have al:=L.andThen EU (λl a=>by cases a;exact Or.inl (ae _));obtain⟨⟨z1,z2⟩,s,EJ,aq,ar⟩:=Vg c;obtain⟨-,hy⟩:=Ev hv;cases hy;unfold mkK at s;simp at s;obtain⟨rfl,rfl⟩:=s;subst EJ;obtain⟨w,t⟩:=nm ((r.alloc (obX d e)).alloc (obR B D C (.func (.func f) #[] k)));have M:r.grownBy w ν:=by rw[t];exact(cR r _ ν).andThen (cR _ _ ν) (λl a=>by cases a)
  have am:=y.kept M (by simp) (by simp);have O:=al.andThen M (λl a=>by cases a);have V:=HD.J w (d,e) ((B,D,C),(f,k)) O aq ar;have jF:=y.owns.lt;have D4:=y.lt;have K:=ak V;have G:=ak t;have a0:=iP f k;simp only[mkK,XW]at ap K F c ⊢;clear t V;go_wp2_with fail;rw[<- G.J];refine K.J.mono ?_;rintro i X ⟨rfl,u⟩;have Y:w.heap[wr.heap.size]?=σ (obX d e):=(by rw[G.J,<- Z];exact(dZ _ _ (by simp)).trans (au r _));have wF:=(u.block _ (aw Y) (by simp)).trans Y;obtain⟨q0,q1⟩:=(show X.cell? ⟨wr.heap.size,0,ν⟩=σ (.string d)/\X.cell? ⟨wr.heap.size,1,ν⟩=σ (.string e)from by simp[World.cell?,wF]);have z:=am.kept u (by simp) (by simp);have P:=O.andThen u (λl a=>by cases a);cases hp:n (gk d e) (.held (.agg #[.slice B D C,.func (.func f) #[] k]));{go_wp2_with fail;go_roundw;(case rel=>exact⟨_,ad,by rw[<- Fk_stays H (Tryz.sT.key c) W hp F];exact z,P⟩);case measure=>rw[z.left_eq,j.left_eq];exact cL}
  go_wp2_with(first
   | (at_delete;refine wpList_delete_ranges _ rfl _ _ 71 198 rfl 143 Tryz.sT underlying71 xY p m.heap.size x _ _ _ rfl z _ _ rfl c ?_;intro w5 an A av ab;go_frame)
   |go_in)
  rw[strike_twice]at A;go_roundw;case rel=>exact⟨_,an,by rw[<- Fk_struck H (Tryz.sT.key c) W hp F];exact A,P.andThen ab.grown (λl a=>by cases a;exact Or.inr rfl)⟩
  case measure=>rw[A.left_eq,j.left_eq];omega
end
section
open Go.Maps Go.WideElems Go.WideShapes
theorem lz.toG{c:List (Lit×υ)}(r:lz m 198 p c)(w:∀a∈c,∃d,a.2=XW d):∃x,m.ownsMap prog 198 xY p x (Lc c):=by obtain⟨g,y,s,f,z,i⟩:=r;have e:=i;unfold Lc at e;simp only[DataW.map.injEq]at e;rw[i];refine⟨g.size,World.ownsMap_of_fit s f (λa j B l=>?_)⟩;obtain⟨A,k⟩:=f.reads a j;have o:rg prog 198 Dg a∈(g.toList.map (rg prog 198 Dg)).foldr DataW.insert []:=(sorted_perm _).mem_iff.mpr (cE.mpr ⟨a,j,rfl⟩);rw[<- e,rg_of k]at o;obtain⟨q,v,u⟩:=cE.mp o;obtain⟨C,n,b⟩:=rd_val k;unfold Dg at l n;cases l;cases n;rw[<- u]at b;simp at b;obtain⟨d,t⟩:=w q v;rw[<- b,t];exact ab4 d
theorem lz.ofG{a:List (Lit×υ)}(d:m.ownsMap prog 198 xY p x (Lc a)):lz m 198 p a:=by obtain⟨j,i,f,c,k,e⟩:=d;have b:=World.ownsMap_of_fit (R:=Dg) f c (λn l o g=>by obtain⟨-,rfl⟩:=Ev g;rfl);rw[<- e]at b;exact lz.eY b
end
