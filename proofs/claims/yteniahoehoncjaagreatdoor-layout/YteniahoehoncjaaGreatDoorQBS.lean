import Derived.Test.YteniahoehoncjaaGreatDoorQBA
import Derived.Deep.Strs
set_option maxHeartbeats 99999999
set_option maxRecDepth 100000
namespace Go.Proofs.YteniahoehoncjaaGreatDoor
open Go.RowKit
section
open Go.ChangeAt Go.ChangeShapes Go.Deep Go.WideShapes
abbrev OpZ:=Int×ByteArray×ByteArray
def opZ (x:OpZ):List Value:=[.int .i64 x.1,.string x.2.1,.string x.2.2]
def opD {H:Type}(c:OpZ):DataW H:=.agg [.lit (.int .i64 c.1),.lit (.string c.2.1.data.toList),.lit (.string c.2.2.data.toList)]
theorem Tryz.NP:Tryz.prog.cellsOf 3=1:=by kernel_rfl
theorem Tryz.Uy:Tryz.prog.cellsOf 4=1:=by kernel_rfl
theorem Tryz.Yn:Tryz.prog.cellsOf 9=1:=by kernel_rfl
theorem Tryz.RR:Tryz.prog.cellsOf 53=3:=by kernel_rfl
theorem Tryz.Uz:Tryz.prog.cellsOf 23=6:=by kernel_rfl
theorem Tryz.abh:Tryz.prog.bytesOf 53=40:=by kernel_rfl
theorem abj {H:Type}{enc:TypeId×Value->H}{W:World}{n:Nat}{cs':List Value}{y:DataW H×List MemPlace}(h:DataW.trod enc Tryz.prog W 0 (λ_=>true) true n 53 cs'=some y) :
 ∃c:OpZ,cs'=opZ c/\y.1=opD c/\c.2.1.size<=maxLen:=by
 obtain ⟨y0,y1,y2,m,rfl,hl,h0,h1,h2⟩:=trod_struct3 Tryz.underlying53 h;rw [Tryz.RR] at hl;rw [Tryz.NP] at h0;rw [Tryz.Yn] at h1 h2
 match cs',hl with
 |[v0,v1,v2],_=>
   obtain ⟨x,e1,rfl,wx⟩:=o6 Tryz.underlying3 h0;obtain ⟨s,e2,rfl,hs⟩:=sB Tryz.underlying9 h1;obtain ⟨s',e3,rfl,VC⟩:=sB Tryz.underlying9 h2;simp at e1 e2 e3;subst e1 e2 e3;exact ⟨⟨x,s,s'⟩,rfl,rfl,hs⟩
theorem xh {H:Type}{enc:TypeId×Value->H}{W:World}{fuel:Nat}{v:Value}{x:DataW H×List MemPlace}(h:DataW.trod enc Tryz.prog W 0 (λ_=>true) true fuel 24 [v]=some x) :
 ∃ops:List OpZ,bF W 3 v ops.length (ops.flatMap opZ)/\(∀c∈ops,c.2.1.size<=maxLen)/\((x.1=.nil/\ops=[])\/∃rest,x.1=.slice (ops.map opD) rest):=by
 rcases open_slice Tryz.underlying24 h with ⟨hcs,rfl⟩|⟨a,len,cap,m,n,D,Pl,hcs,hb,hl,hm,UD,rfl,hx⟩
 . simp only [List.cons.injEq,and_true] at hcs
   exact ⟨[],⟨rfl,.inl ⟨rfl,_,_,hcs⟩⟩,by simp,.inl ⟨rfl,rfl⟩⟩
 . simp only [List.cons.injEq,and_true] at hcs
   subst hcs;have OU:len<=m:=by rw [UD];simp;omega
   rw [Tryz.RR] at hx;have avz:Inhabited OpZ:=⟨(0,⟨#[]⟩,⟨#[]⟩)⟩;obtain ⟨F,hF⟩:=choose_lt (α:=OpZ) (n:=len) (p:=λi c=>W.cells? 0 (a.add (i*3)) 3=some (opZ c)/\D i=opD c/\c.2.1.size<=maxLen) (λi hi=>by
    obtain ⟨cs',h1,h2⟩:=hx i (by omega);obtain ⟨c,rfl,e,hn⟩:=abj h2;exact ⟨c,h1,e,hn⟩)
   have hcell:∀i,i<len->∀j,j<3->W.cell? ((a.add (i*3)).add j)=(opZ (F i))[j]?:=by
    intro i hi j hj;obtain ⟨_,_,hc⟩:=World.cells?_some (hF i hi).1;exact hc j hj
   have aj1:0<len->a.spot=none:=by
    intro h0;have:=hcell 0 h0 0 (by omega);rw [oV] at this;have ha:(a.add 0).add 0=a:=by simp [Addr.add]
    rw [ha] at this
    cases hs:a.spot with
    |none=>rfl
    |some z=>
      simp only [World.cell?,hs] at this;split at this<;>simp [opZ] at this
   refine ⟨(List.range len).map F,?_,?_,.inr ⟨(List.range (m - len)).map (λj=>D (len+j)),?_⟩⟩
   . refine ⟨by rw [q9 opZ 3 (λ_=>rfl)],?_⟩
     by_cases h0:len=0
     . subst h0
       exact .inl ⟨by simp,_,_,rfl⟩
     . have DI:=aj1 (by omega)
       obtain ⟨ab,ao,asp⟩:=a;simp only at DI;subst DI;refine .inr ⟨ab,ao,cap,by simp,by simpa using hl,?_,λj hj=>?_⟩
       . have:=hcell 0 (by omega) 0 (by omega)
         simp only [Nat.zero_mul,Addr.add_lit,opZ] at this;exact block_lt_of_cell this
       . have hj':j<len*3:=by simpa using hj
         have hd:j / 3<len:=by omega
         have h1:=hcell (j / 3) hd (j % 3) (by omega);rw [vj,vj] at h1;have e1:ao+j / 3*3+j % 3=ao+j:=by omega
         rw [e1] at h1;rw [h1];have h2:=dc opZ 3 (λ_=>rfl) ((List.range len).map F) (i:=j / 3) (a:=F (j / 3)) (by rw [a7,jB hd];rfl) (j:=j % 3) (by omega);rw [show j / 3*3+j % 3=j by omega] at h2;exact h2.symm
   . intro c hc
     obtain ⟨i,hi,rfl⟩:=dv.1 hc;exact (hF i (by simpa using hi)).2.2
   . show DataW.slice ((List.range len).map D) _=_
     congr 1;rw [jH];exact ik (λi hi=>(hF i (by simpa using hi)).2.1)
theorem uY {H:Type}{ts:List TypeId}{ds:List (DataW H)}(h:(DataW.weightsEach Tryz.prog ts ds).all (·<=reachBytes)=true){j:Nat}{cs:List OpZ}{rest:List (DataW H)}(ht:ts[j]?=some 24)(hd:ds[j]?=some (.slice (cs.map opD) rest)) :
 cs.length*40<=140737488351232:=by
 have:=sized_slice h ht hd Tryz.underlying24;rw [Tryz.abh,aW] at this;have e:reachBytes=140737488351232:=rfl;omega
theorem xT {H:Type}{enc:TypeId×Value->H}{W:World}{fuel base:Nat}{v:Value}{x:DataW H×List MemPlace}(hv:Value.okWide Tryz.prog W .any base 23 v)(h:DataW.trod enc Tryz.prog W 0 (λ_=>true) true fuel 23 v.cells.toList=some x) :
 ∃seg pk wd bud:Int,∃prune push:Bool,v=.agg #[.int .i64 seg,.int .i64 pk,.int .i64 wd,.bool prune,.bool push,.int .i64 bud]:=by
 obtain ⟨cs,rfl,kd⟩:=okWide_struct Tryz.underlying23 hv;rw [Tryz.Uz] at kd;obtain ⟨xs,n,_,rfl,hl,hlen,hf⟩:=DataW.trod_struct Tryz.underlying23 h;obtain ⟨l⟩:=cs
 match l,kd,xs,hlen with
 |[v0,v1,v2,v3,v4,v5],_,[y0,y1,y2,y3,y4,y5],_=>
   have Yo:DataW.trod enc Tryz.prog W 0 (λ_=>true) true n 3 (([v0,v1,v2,v3,v4,v5].drop 0).take (Tryz.prog.cellsOf 3))=some y0:=hf 0 _ rfl;have Ju:DataW.trod enc Tryz.prog W 0 (λ_=>true) true n 3 (([v0,v1,v2,v3,v4,v5].drop 1).take (Tryz.prog.cellsOf 3))=some y1:=hf 1 _ rfl;have xN:DataW.trod enc Tryz.prog W 0 (λ_=>true) true n 3 (([v0,v1,v2,v3,v4,v5].drop 2).take (Tryz.prog.cellsOf 3))=some y2:=hf 2 _ rfl;have Ic:DataW.trod enc Tryz.prog W 0 (λ_=>true) true n 4 (([v0,v1,v2,v3,v4,v5].drop 3).take (Tryz.prog.cellsOf 4))=some y3:=hf 3 _ rfl;have hf4:DataW.trod enc Tryz.prog W 0 (λ_=>true) true n 4 (([v0,v1,v2,v3,v4,v5].drop 4).take (Tryz.prog.cellsOf 4))=some y4:=hf 4 _ rfl;have Dv:DataW.trod enc Tryz.prog W 0 (λ_=>true) true n 3 (([v0,v1,v2,v3,v4,v5].drop 5).take (Tryz.prog.cellsOf 3))=some y5:=hf 5 _ rfl;rw [Tryz.NP] at Yo Ju xN Dv;rw [Tryz.Uy] at Ic hf4;obtain ⟨n0,e0,-,-⟩:=o6 Tryz.underlying3 (show _=some y0 from Yo);obtain ⟨n1,e1,-,-⟩:=o6 Tryz.underlying3 (show _=some y1 from Ju);obtain ⟨n2,e2,-,-⟩:=o6 Tryz.underlying3 (show _=some y2 from xN);obtain ⟨b3,e3,-⟩:=DataW.trod_bool Tryz.underlying4 (show _=some y3 from Ic);obtain ⟨b4,e4,-⟩:=DataW.trod_bool Tryz.underlying4 (show _=some y4 from hf4);obtain ⟨n5,e5,-,-⟩:=o6 Tryz.underlying3 (show _=some y5 from Dv);simp at e0 e1 e2 e3 e4 e5;subst e0 e1 e2 e3 e4 e5;exact ⟨n0,n1,n2,n5,b3,b4,rfl⟩
end
end Go.Proofs.YteniahoehoncjaaGreatDoor
