import Derived.Test.YtfeckmaleonjjaaGreatDoorFCA
import Derived.Test.YtfeckmaleonjjaaGreatDoorFAT
import Derived.Maps.Ext
import Derived.Deep.LoopGhost
set_option maxHeartbeats 0
set_option maxRecDepth 100000
namespace Go.Proofs.YtfeckmaleonjjaaGreatDoor
open Go.RowKit
open _root_.Go.Proofs.Tryz
open Go renaming World→ω,Value→υ
variable{w:υ}{p x:Nat}{m:ω}
section
open Go.Maps
abbrev GrV:=(Option Addr×Nat×Nat)×(Nat×Array Value)
def ZM(c:GrV):υ:=.agg #[.slice c.1.1 c.1.2.1 c.1.2.2,.func (.func c.2.1) #[] c.2.2]
def mkK(x:Γ×Γ):υ:=.agg #[.string x.1,.string x.2]
noncomputable def zt (v:υ):Option (DataW υ×Δ MemPlace):=@ite _ (∃c,v=ZM c) (Classical.propDecidable _) (some (.held v,[])) none
theorem FE{b:DataW υ×Δ MemPlace}(a:zt w=some b):(∃c,w=ZM c)/\b=(.held w,[]):=by unfold zt at a;split at a;{rename_i d;exact⟨d,(bh a).symm⟩};cases a
theorem adz(a:GrV):zt (ZM a)=some (.held (ZM a),[]):=by unfold zt;rw[aN ⟨a,rfl⟩]
theorem Vq{b:Program}(s:b.types.size=p+1)
 (g:b.underlying 239=some (TypeDesc.struct #[{ name:= "user",type:=9,offset:=0,embedded:=false,tag:= "",pkgPath:= "quarry/quarry",byteOffset:=0 },{ name:= "table",type:=9,offset:=1,embedded:=false,tag:= "",pkgPath:= "quarry/quarry",byteOffset:=16 }]))
 (r:b.underlying 9=some .string) (j:b.keyType 239=true) (n:b.cellsOf 239=2) (m:b.cellsOf 9=1)
  {kl:Lit} (a:keyOf b 239 w=some kl):∃d:Γ×Γ,w=mkK d/\kl=gk d.1 d.2/\d.1.size<=maxLen/\d.2.size<=maxLen:=by
 unfold keyOf at a;rw[g]at a;simp only[j,Bool.true_and]at a;split at a
 .rename_i e
  unfold Value.formed at e
  cases w<;>simp[g]at e
  rename_i o;rw[n]at e;obtain⟨i⟩:=o
  match i,e with
  |[k,l],_=>
    simp[Value.cells,Program.keyLits,s,g,r,m]at a
    cases k<;>(try(exfalso;revert a;simp;done))
    case string s1 _=>
     by_cases c:s1.size<=maxLen
     . cases l<;>(try(exfalso;revert a;simp[c];done))
       case string s2 _=>
        by_cases f:s2.size<=maxLen
        . simp[c,f]at a
          obtain⟨i,⟨-,rfl⟩,rfl⟩:=a;exact⟨(s1,s2),rfl,rfl,c,f⟩
        . exfalso;revert a;simp[c,f]
     . exfalso;revert a;simp[c]
 cases a
theorem Xf{kl:Lit}(b:keyOf prog 239 w=some kl):∃a:Γ×Γ,w=mkK a/\kl=gk a.1 a.2/\a.1.size<=maxLen/\a.2.size<=maxLen:=by obtain⟨d,c⟩:=sA.2 (bY (aB _) Tryz.ac3);exact Vq c underlying239 underlying9 Tryz.MF Tryz.WR S.Tryz.Uw b
theorem JZ{g:Nat}{G:DataW υ}{cb:Array υ}(T:m.ownsMap prog 239 zt p x G)(n:Lit->DataW υ->Bool)(eg:∀P m,(callFunc g P).run prog m=.ok (.enter g P) m)
 (M:∀(W:ω) (b:Γ×Γ) (Q:GrV),m.grownBy W (some p)->b.1.size<=maxLen->b.2.size<=maxLen->Calls prog g (#[mkK b,ZM Q]++cb) W λi o=>i=.returned (.bool (n (gk b.1 b.2) (.held (ZM Q))))/\W.grownBy o none) :
 Calls prog 262 #[.map (some p),.func (.func g) #[] cb] m λi o=>i=.returned (.tuple #[])/\o.ownsMap prog 239 zt p x (Lib.deleteFuncD n G)/\m.grownBy o (some p):=by
 obtain⟨am,rfl,L,ab⟩:=T.entries Tryz.uC;have HD:=ak M;clear M;go_in;go_wp2_with(first
  | (at_range;refine wpList_range_own _ rfl _ 72 rfl 239 174 Tryz.uC underlying72 zt p x _ rfl T ?_;intro w0 ac Ki av)
  |go_in)
 go_frame;go_loopw[8] (λ_ wr=>∃(left:Lit->Bool) (R:Nat),wr.ranges prog 239 zt p m.heap.size x (Fk n am left) left R/\m.grownBy wr (some p)) (λ_ wr=>wr.rangeLeft p m.heap.size);case atStart=>exact⟨_,_,by rw[Fk_start ab];exact ac,Ki.but _⟩
 case round=>
  obtain⟨left,R,j,I⟩:=hrel;go_wp2_with(first
   | (at_next;refine wpList_next_ranges _ rfl _ rfl 239 Tryz.uC zt mkK ZM (λax kl C=>by obtain⟨b,h1,-⟩:=Xf C;exact⟨b,h1⟩) (λaT a0 C=>(FE C).1) p m.heap.size x _ _ _ rfl j ?_ ?_)
   |go_in)
  {intro _ Iw;go_wp2;go_end0;exact⟨rfl,by rw[<- Fk_end Iw];exact j.owns,I⟩}
  intro d e y A z f l kl yd yp r ad c X hv B u cK Z Sy Ia;have ag:=I.andThen Z (λk a=>by cases a;exact Or.inl (ae _));obtain⟨⟨z1,z2⟩,s,Ku,ao,ap⟩:=Xf c;obtain⟨-,hy⟩:=FE hv;cases hy;unfold mkK at s;simp at s;obtain⟨rfl,rfl⟩:=s;subst Ku;obtain⟨t,D⟩:=nm ((r.alloc (obX d e)).alloc (obR y A z (.func (.func f) #[] l)));have V:r.grownBy t none:=by rw[D];exact(dG r _ none).andThen (dG _ _ none) (λk a=>by cases a)
  have ai:=u.kept V (by simp) (by simp);have N:=ag.andThen V (λk a=>by cases a);have U:=HD.J t (d,e) ((y,A,z),(f,l)) N ao ap;have mo:=u.owns.lt;have EJ:=u.lt;have H:=ak U;have K:=ak D;have aC:=mq f l;simp only[mkK,ZM]at Ia H B c ⊢;clear D U;go_wp21;rw[<- K.J];refine H.J.mono ?_;rintro i Y ⟨rfl,E⟩;have F:t.heap[wr.heap.size]?=some (obX d e):=(by rw[K.J,<- Sy];exact(fY _ _ (by simp)).trans (az r _));have an:=(E.block _ (aA F) (by simp)).trans F;obtain⟨q0,q1⟩:=(show Y.cell? ⟨wr.heap.size,0,none⟩=some (.string d)/\Y.cell? ⟨wr.heap.size,1,none⟩=some (.string e)from by simp[World.cell?,an]);have v:=ai.kept E (by simp) (by simp);have O:=N.andThen E (λk a=>by cases a);cases hp:n (gk d e) (.held (.agg #[.slice y A z,.func (.func f) #[] l]));{go_wp2;go_roundw;(case rel=>exact⟨_,ad,by rw[<- Fk_stays L (Tryz.uC.key c) X hp B];exact v,O⟩);case measure=>rw[v.left_eq,j.left_eq];exact cK}
  go_wp2_with(first
   | (at_delete;refine wpList_delete_ranges _ rfl _ _ 72 239 rfl 174 Tryz.uC underlying72 zt p m.heap.size x _ _ _ rfl v _ _ rfl c ?_;intro w5 al w ar aa;go_frame)
   |go_in)
  rw[strike_twice]at w;go_roundw;case rel=>exact⟨_,al,by rw[<- Fk_struck L (Tryz.uC.key c) X hp B];exact w,O.andThen aa.grown (λk a=>by cases a;exact Or.inr rfl)⟩
  case measure=>rw[w.left_eq,j.left_eq];omega
end
section
open Go.Maps Go.WideElems Go.WideShapes
theorem mK.toG{b:Δ (Lit×υ)}(r:mK m 239 p b)(w:∀a∈b,∃c,a.2=ZM c):∃x,m.ownsMap prog 239 zt p x (ME b):=by obtain⟨g,y,s,f,z,i⟩:=r;have d:=i;unfold ME at d;simp only[DataW.map.injEq]at d;rw[i];refine⟨g.size,World.ownsMap_of_fit s f (λa j B l=>?_)⟩;obtain⟨A,k⟩:=f.reads a j;have o:rg prog 239 Eo a∈(g.toList.map (rg prog 239 Eo)).foldr DataW.insert []:=(sorted_perm _).mem_iff.mpr (cP.mpr ⟨a,j,rfl⟩);rw[<- d,rg_of k]at o;obtain⟨q,v,u⟩:=cP.mp o;obtain⟨C,n,e⟩:=rd_val k;unfold Eo at l n;cases l;cases n;rw[<- u]at e;simp at e;obtain⟨c,t⟩:=w q v;rw[<- e,t];exact adz c
theorem mK.ofG{a:Δ (Lit×υ)}(d:m.ownsMap prog 239 zt p x (ME a)):mK m 239 p a:=by obtain⟨j,i,f,c,k,e⟩:=d;have b:=World.ownsMap_of_fit (R:=Eo) f c (λn l o g=>by obtain⟨-,rfl⟩:=FE g;rfl);rw[<- e]at b;exact mK.dE b
end
