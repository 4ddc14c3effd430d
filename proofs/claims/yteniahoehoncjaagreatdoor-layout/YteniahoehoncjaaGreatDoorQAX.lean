import Derived.Test.YteniahoehoncjaaGreatDoorQAW
import Derived.Test.YteniahoehoncjaaGreatDoorQAD
import Derived.Maps.Ext
import Derived.Deep.LoopGhost
set_option maxHeartbeats 99999999
set_option maxRecDepth 100000
namespace Go.Proofs.YteniahoehoncjaaGreatDoor
open Go.RowKit
section
open Go.Maps
abbrev GrV:=(Option Addr×Nat×Nat)×(Nat×Array Value)
def TR (c:GrV):Value:=.agg #[.slice c.1.1 c.1.2.1 c.1.2.2,.func (.func c.2.1) #[] c.2.2]
def mkK (x:ByteArray×ByteArray):Value:=.agg #[.string x.1,.string x.2]
noncomputable def vC (v:Value):Option (DataW Value×List MemPlace):=@ite _ (∃c,v=TR c) (Classical.propDecidable _) (some (.held v,[])) none
theorem B1 {v:Value}{y:DataW Value×List MemPlace}(h:vC v=some y):(∃c,v=TR c)/\y=(.held v,[]):=by
 unfold vC at h;split at h
 . rename_i hc
   exact ⟨hc,(aS h).symm⟩
 . cases h
theorem Xn (c:GrV):vC (TR c)=some (.held (TR c),[]):=by
 unfold vC;rw [aH ⟨c,rfl⟩]
theorem P6 {P:Program}{m:Nat}(hm:P.types.size=m+1)
 (hg:P.underlying 189=some (TypeDesc.struct #[{ name:= "user",type:=9,offset:=0,embedded:=false,tag:= "",pkgPath:= "quarry/quarry",byteOffset:=0 },{ name:= "table",type:=9,offset:=1,embedded:=false,tag:= "",pkgPath:= "quarry/quarry",byteOffset:=16 }]))
 (h9:P.underlying 9=some .string) (hkt:P.keyType 189=true) (cg:P.cellsOf 189=2) (c9:P.cellsOf 9=1)
 {v:Value} {kl:Lit} (h:keyOf P 189 v=some kl):∃x:ByteArray×ByteArray,v=mkK x/\kl=gk x.1 x.2/\x.1.size<=maxLen/\x.2.size<=maxLen:=by
 unfold keyOf at h;rw [hg] at h;simp only [hkt,Bool.true_and] at h;split at h
 . rename_i hf
   unfold Value.formed at hf
   cases v<;>simp [hg] at hf
   rename_i cs;rw [cg] at hf;obtain ⟨l⟩:=cs
   match l,hf with
   |[a,b],_=>
     simp [Value.cells,Program.keyLits,hm,hg,h9,c9] at h
     cases a<;>(try (exfalso;revert h;simp;done))
     case string s1 _=>
      by_cases h1:s1.size<=maxLen
      . cases b<;>(try (exfalso;revert h;simp [h1];done))
        case string s2 _=>
         by_cases h2:s2.size<=maxLen
         . simp [h1,h2] at h
           obtain ⟨l,⟨-,rfl⟩,rfl⟩:=h;exact ⟨(s1,s2),rfl,rfl,h1,h2⟩
         . exfalso;revert h;simp [h1,h2]
      . exfalso;revert h;simp [h1]
 . cases h
theorem RH {v:Value}{kl:Lit}(h:keyOf Tryz.prog 189 v=some kl):∃x:ByteArray×ByteArray,v=mkK x/\kl=gk x.1 x.2/\x.1.size<=maxLen/\x.2.size<=maxLen:=by
 obtain ⟨m,hm⟩:=pz.2 (cW (aN _) Tryz.Wc);exact P6 hm Tryz.underlying189 Tryz.underlying9 Tryz.IQ Tryz.Rc S.Tryz.Oo h
theorem Du (k:Nat)(iJ:Array Value)(a:Addr)(m:Go.Mode)(w:World):(store a (.func (.func k) #[] iJ) m).run Tryz.prog w=stored Tryz.prog w a (.func (.func k) #[] iJ) m:=run_store Tryz.prog w a _ m rfl
theorem F9 {w:World}{m g n:Nat}{D:DataW Value}{cb:Array Value}(br:w.ownsMap Tryz.prog 189 vC m n D)(pd:Lit->DataW Value->Bool)(eg:∀args w,(callFunc g args).run Tryz.prog w=.ok (.enter g args) w)
 (PH:∀(W:World) (x:ByteArray×ByteArray) (c:GrV),w.grownBy W (some m)->x.1.size<=maxLen->x.2.size<=maxLen->Calls Tryz.prog g (#[mkK x,TR c]++cb) W λe w'=>e=.returned (.bool (pd (gk x.1 x.2) (.held (TR c))))/\W.grownBy w' none) :
 Calls Tryz.prog 216 #[.map (some m),.func (.func g) #[] cb] w λe w'=>e=.returned (.tuple #[])/\w'.ownsMap Tryz.prog 189 vC m n (Lib.deleteFuncD pd D)/\w.grownBy w' (some m):=by
 obtain ⟨es0,rfl,Xo,aiw⟩:=br.entries Tryz.qG;have HD:=hide PH;clear PH;go_enter Tryz.func216,Tryz.ntmps216;go_wp2_with (first
  | (at_range;refine wpList_range_own _ rfl _ 67 rfl 189 139 Tryz.qG Tryz.underlying67 vC m n _ rfl br ?_;intro w0 anT IG hs0)
  |go_in)
 go_frame;go_loopw [8] (λ_ wr=>∃(left:Lit->Bool) (cnt:Nat),wr.ranges Tryz.prog 189 vC m w.heap.size n (Fk pd es0 left) left cnt/\w.grownBy wr (some m)) (λ_ wr=>wr.rangeLeft m w.heap.size)
 case atStart=>exact ⟨_,_,by rw [Fk_start aiw];exact anT,IG.but _⟩
 case round=>
  obtain ⟨left,cnt,V5,LH⟩:=hrel;go_wp2_with (first
   | (at_next;refine wpList_next_ranges _ rfl _ rfl 189 Tryz.qG vC mkK TR (λkey kl h=>by obtain ⟨x,h1,-⟩:=RH h;exact ⟨x,h1⟩) (λv y h=>(B1 h).1) m w.heap.size n _ _ _ rfl V5 ?_ ?_)
   |go_in)
  . intro _ NY
    go_wp2;go_end0;exact ⟨rfl,by rw [<- Fk_end NY];exact V5.owns,LH⟩
  . intro x1 x2 ca cn cc ck kV kl yd yp w1 anU Lv hlx hv jM aaJ cF C5 Zq hen
    have anV:=LH.andThen C5 (λj hj=>by cases hj;exact Or.inl (af _));obtain ⟨⟨z1,z2⟩,D0,CH,U3,hx4⟩:=RH Lv;obtain ⟨-,hy⟩:=B1 hv
    cases hy
    unfold mkK at D0;simp at D0;obtain ⟨rfl,rfl⟩:=D0;subst CH;obtain ⟨W3,TS⟩:∃W3,W3=(w1.alloc (.cells #[.string x1,.string x2] 189)).alloc (.cells #[.slice ca cn cc,.func (.func ck) #[] kV] 139):=⟨_,rfl⟩;have NT:w1.grownBy W3 none:=by rw [TS];exact (bP w1 _ none).andThen (bP _ _ none) (λj hj=>by cases hj)
    have anW:=aaJ.kept NT (by simp) (by simp);have aix:=anV.andThen NT (λj hj=>by cases hj);have hc:=ae HD W3 (x1,x2) ((ca,cn,cc),(ck,kV)) aix U3 hx4;have fN:=aaJ.owns.lt;have Ey:=aaJ.lt;have HC:=hide hc;have Gq:=hide TS;have rsf:=Du ck kV;simp only [mkK,TR] at hen HC jM Lv ⊢;clear TS hc;go_wp2_with fail;rw [<- ae Gq];refine (ae HC).mono ?_;rintro e w4 ⟨rfl,N8⟩;have tq:W3.heap[wr.heap.size]?=some (.cells #[.string x1,.string x2] 189 (0,0)):=by
     rw [ae Gq,<- Zq];exact (dX _ _ (by simp)).trans (ai w1 _)
    have Jt:=(N8.block _ (az tq) (by simp)).trans tq;obtain ⟨q0,q1⟩:=(show w4.cell? ⟨wr.heap.size,0,none⟩=some (.string x1)/\w4.cell? ⟨wr.heap.size,1,none⟩=some (.string x2) from by simp [World.cell?,Jt]);have aeJ:=anW.kept N8 (by simp) (by simp);have aiy:=aix.andThen N8 (λj hj=>by cases hj)
    cases hp:pd (gk x1 x2) (.held (.agg #[.slice ca cn cc,.func (.func ck) #[] kV]))
    . go_wp2_with fail
      go_roundw
      case rel=>exact ⟨_,anU,by rw [<- Fk_stays Xo (Tryz.qG.key Lv) hlx hp jM];exact aeJ,aiy⟩
      case measure=>rw [aeJ.left_eq,V5.left_eq];exact cF
    . go_wp2_with (first
       | (at_delete;refine wpList_delete_ranges _ rfl _ _ 67 189 rfl 139 Tryz.qG Tryz.underlying67 vC m w.heap.size n _ _ _ rfl aeJ _ _ rfl Lv ?_;intro w5 anX aeK hle aiz;go_frame)
       |go_in)
      rw [strike_twice] at aeK;go_roundw
      case rel=>exact ⟨_,anX,by rw [<- Fk_struck Xo (Tryz.qG.key Lv) hlx hp jM];exact aeK,aiy.andThen aiz.grown (λj hj=>by cases hj;exact Or.inr rfl)⟩
      case measure=>rw [aeK.left_eq,V5.left_eq];omega
end
section
open Go.Maps Go.WideElems Go.WideShapes
theorem j7.toG {w:World}{m:Nat}{T:List (Lit×Value)}(h:j7 w 189 m T)(hs:∀x∈T,∃c,x.2=TR c):∃n,w.ownsMap Tryz.prog 189 vC m n (IL T):=by
 obtain ⟨es,clock,hb,F,hn,hD⟩:=h;have hl:=hD;unfold IL at hl;simp only [DataW.map.injEq] at hl;rw [hD];refine ⟨es.size,World.ownsMap_of_fit hb F (λx hx z hz=>?_)⟩;obtain ⟨y,hy⟩:=F.reads x hx;have oy:rg Tryz.prog 189 Am x∈(es.toList.map (rg Tryz.prog 189 Am)).foldr DataW.insert []:=(sorted_perm _).mem_iff.mpr (dv.mpr ⟨x,hx,rfl⟩);rw [<- hl,rg_of hy] at oy;obtain ⟨q,hq,he⟩:=dv.mp oy;obtain ⟨z2,jv,hz3⟩:=rd_val hy;unfold Am at hz jv
 cases hz
 cases jv
 rw [<- he] at hz3;simp at hz3;obtain ⟨c,hc⟩:=hs q hq;rw [<- hz3,hc];exact Xn c
theorem j7.ofG {w:World}{m n:Nat}{T:List (Lit×Value)}(h:w.ownsMap Tryz.prog 189 vC m n (IL T)):j7 w 189 m T:=by
 obtain ⟨es,clock,hb,F,hn,hD⟩:=h;have h2:=World.ownsMap_of_fit (R:=Am) hb F (λx hx z hz=>by obtain ⟨-,rfl⟩:=B1 hz;rfl);rw [<- hD] at h2;exact j7.jt h2
end
end Go.Proofs.YteniahoehoncjaaGreatDoor
