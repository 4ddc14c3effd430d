import Derived.Test.YtcoaphfimellcaaGreatDoorFAD
import Derived.Test.YtcoaphfimellcaaGreatDoorFBH
import Derived.Maps.Ext
import Derived.Deep.LoopGhost
set_option maxHeartbeats 0
set_option maxRecDepth 100000
namespace Go.Proofs.YtcoaphfimellcaaGreatDoor
open Go.RowKit
open _root_.Go.Proofs.Tryz
open Go renaming World→ω,Value→υ
variable{w:υ}{p x:Nat}{m:ω}
section
open Go.Maps
abbrev GrV:=(Option Addr×Nat×Nat)×(Nat×Array Value)
def mkG(c:GrV):υ:=.agg #[.slice c.1.1 c.1.2.1 c.1.2.2,.func (.func c.2.1) #[] c.2.2]
def mkK(x:ByteArray×ByteArray):υ:=.agg #[.string x.1,.string x.2]
noncomputable def yW (v:υ):Option (DataW υ×List MemPlace):=@ite _ (∃c,v=mkG c) (Classical.propDecidable _) (some (.held v,[])) none
theorem Fu{b:DataW υ×List MemPlace}(a:yW w=some b):(∃c,w=mkG c)/\b=(.held w,[]):=by unfold yW at a;split at a;{rename_i d;exact⟨d,(bk a).symm⟩};cases a
theorem aes(a:GrV):yW (mkG a)=some (.held (mkG a),[]):=by unfold yW;rw[aF ⟨a,rfl⟩]
theorem VG{b:Program}(s:b.types.size=p+1)
 (g:b.underlying 198=some (TypeDesc.struct #[{ name:= "user",type:=9,offset:=0,embedded:=false,tag:= "",pkgPath:= "quarry/quarry",byteOffset:=0 },{ name:= "table",type:=9,offset:=1,embedded:=false,tag:= "",pkgPath:= "quarry/quarry",byteOffset:=16 }]))
 (o:b.underlying 9=some .string) (r:b.keyType 198=true) (m:b.cellsOf 198=2) (l:b.cellsOf 9=1)
  {kl:Lit} (a:keyOf b 198 w=some kl):∃d:ByteArray×ByteArray,w=mkK d/\kl=gk d.1 d.2/\d.1.size<=maxLen/\d.2.size<=maxLen:=by
 unfold keyOf at a;rw[g]at a;simp only[r,Bool.true_and]at a;split at a
 .rename_i e
  unfold Value.formed at e
  cases w<;>simp[g]at e
  rename_i n;rw[m]at e;obtain⟨i⟩:=n
  match i,e with
  |[j,k],_=>
    simp[Value.cells,Program.keyLits,s,g,o,l]at a
    cases j<;>(try(exfalso;revert a;simp;done))
    case string s1 _=>
     by_cases c:s1.size<=maxLen
     . cases k<;>(try(exfalso;revert a;simp[c];done))
       case string s2 _=>
        by_cases f:s2.size<=maxLen
        . simp[c,f]at a
          obtain⟨i,⟨-,rfl⟩,rfl⟩:=a;exact⟨(s1,s2),rfl,rfl,c,f⟩
        . exfalso;revert a;simp[c,f]
     . exfalso;revert a;simp[c]
 cases a
theorem XS{kl:Lit}(b:keyOf prog 198 w=some kl):∃a:ByteArray×ByteArray,w=mkK a/\kl=gk a.1 a.2/\a.1.size<=maxLen/\a.2.size<=maxLen:=by obtain⟨d,c⟩:=rL.2 (dF (aI _) Tryz.aek);exact VG c underlying198 underlying9 Tryz.MQ Tryz.XM S.Tryz.Uo b
theorem J3{g:Nat}{H:DataW υ}{cb:Array υ}(U:m.ownsMap prog 198 yW p x H)(n:Lit->DataW υ->Bool)(eg:∀R m,(callFunc g R).run prog m=.ok (.enter g R) m)
 (N:∀(u:ω) (b:ByteArray×ByteArray) (T:GrV),m.grownBy u (some p)->b.1.size<=maxLen->b.2.size<=maxLen->Calls prog g (#[mkK b,mkG T]++cb) u λi o=>i=.returned (.bool (n (gk b.1 b.2) (.held (mkG T))))/\u.grownBy o none) :
 Calls prog 274 #[.map (some p),.func (.func g) #[] cb] m λi o=>i=.returned (.tuple #[])/\o.ownsMap prog 198 yW p x (Lib.deleteFuncD n H)/\m.grownBy o (some p):=by
 obtain⟨ao,rfl,K,aa⟩:=U.entries Tryz.ud;have HD:=au N;clear N;go_in;go_wp2_with(first
  | (at_range;refine wpList_range_own _ rfl _ 71 rfl 198 143 Tryz.ud underlying71 yW p x _ rfl U ?_;intro w0 ac aq aC)
  |go_in)
 go_frame;go_loopw[8] (λ_ wr=>∃(left:Lit->Bool) (V:Nat),wr.ranges prog 198 yW p m.heap.size x (Fk n ao left) left V/\m.grownBy wr (some p)) (λ_ wr=>wr.rangeLeft p m.heap.size);case atStart=>exact⟨_,_,by rw[Fk_start aa];exact ac,aq.but _⟩
 case round=>
  obtain⟨left,V,j,M⟩:=hrel;go_wp2_with(first
   | (at_next;refine wpList_next_ranges _ rfl _ rfl 198 Tryz.ud yW mkK mkG (λa0 kl D=>by obtain⟨b,h1,-⟩:=XS D;exact⟨b,h1⟩) (λa2 a3 D=>(Fu D).1) p m.heap.size x _ _ _ rfl j ?_ ?_)
   |go_in)
  {intro _ Z;go_wp2;go_end0;exact⟨rfl,by rw[<- Fk_end Z];exact j.owns,M⟩}
  intro d e A C B f l kl yd yp r ad c X hv F w cQ EX GD ap;have al:=M.andThen EX (λk a=>by cases a;exact Or.inl (ae _));obtain⟨⟨z1,z2⟩,t,NC,ar,av⟩:=XS c;obtain⟨-,hy⟩:=Fu hv;cases hy;unfold mkK at t;simp at t;obtain⟨rfl,rfl⟩:=t;subst NC;obtain⟨v,s⟩:=nm ((r.alloc (obX d e)).alloc (obR A C B (.func (.func f) #[] l)));have O:r.grownBy v none:=by rw[s];exact(dh r _ none).andThen (dh _ _ none) (λk a=>by cases a)
  have am:=w.kept O (by simp) (by simp);have P:=al.andThen O (λk a=>by cases a);have W:=HD.J v (d,e) ((A,C,B),(f,l)) P ar av;have kN:=w.owns.lt;have E3:=w.lt;have L:=au W;have I:=au s;have a1:=jz f l;simp only[mkK,mkG]at ap L F c ⊢;clear s W;go_wp2_with fail;rw[<- I.J];refine L.J.mono ?_;rintro i Y ⟨rfl,E⟩;have G:v.heap[wr.heap.size]?=some (obX d e):=(by rw[I.J,<- GD];exact(fu _ _ (by simp)).trans (ak r _));have yv:=(E.block _ (ay G) (by simp)).trans G;obtain⟨q0,q1⟩:=(show Y.cell? ⟨wr.heap.size,0,none⟩=some (.string d)/\Y.cell? ⟨wr.heap.size,1,none⟩=some (.string e)from by simp[World.cell?,yv]);have y:=am.kept E (by simp) (by simp);have Q:=P.andThen E (λk a=>by cases a);cases hp:n (gk d e) (.held (.agg #[.slice A C B,.func (.func f) #[] l]));{go_wp2_with fail;go_roundw;(case rel=>exact⟨_,ad,by rw[<- Fk_stays K (Tryz.ud.key c) X hp F];exact y,Q⟩);case measure=>rw[y.left_eq,j.left_eq];exact cQ}
  go_wp2_with(first
   | (at_delete;refine wpList_delete_ranges _ rfl _ _ 71 198 rfl 143 Tryz.ud underlying71 yW p m.heap.size x _ _ _ rfl y _ _ rfl c ?_;intro w5 an z ax ab;go_frame)
   |go_in)
  rw[strike_twice]at z;go_roundw;case rel=>exact⟨_,an,by rw[<- Fk_struck K (Tryz.ud.key c) X hp F];exact z,Q.andThen ab.grown (λk a=>by cases a;exact Or.inr rfl)⟩
  case measure=>rw[z.left_eq,j.left_eq];omega
end
section
open Go.Maps Go.WideElems Go.WideShapes
theorem lS.toG{b:List (Lit×υ)}(r:lS m 198 p b)(w:∀a∈b,∃d,a.2=mkG d):∃x,m.ownsMap prog 198 yW p x (MP b):=by obtain⟨g,y,s,f,z,i⟩:=r;have e:=i;unfold MP at e;simp only[DataW.map.injEq]at e;rw[i];refine⟨g.size,World.ownsMap_of_fit s f (λa j B l=>?_)⟩;obtain⟨A,k⟩:=f.reads a j;have o:rg prog 198 Ef a∈(g.toList.map (rg prog 198 Ef)).foldr DataW.insert []:=(sorted_perm _).mem_iff.mpr (cI.mpr ⟨a,j,rfl⟩);rw[<- e,rg_of k]at o;obtain⟨q,v,u⟩:=cI.mp o;obtain⟨C,n,c⟩:=rd_val k;unfold Ef at l n;cases l;cases n;rw[<- u]at c;simp at c;obtain⟨d,t⟩:=w q v;rw[<- c,t];exact aes d
theorem lS.ofG{a:List (Lit×υ)}(d:m.ownsMap prog 198 yW p x (MP a)):lS m 198 p a:=by obtain⟨j,i,f,c,k,e⟩:=d;have b:=World.ownsMap_of_fit (R:=Ef) f c (λn l o g=>by obtain⟨-,rfl⟩:=Fu g;rfl);rw[<- e]at b;exact lS.fM b
end
