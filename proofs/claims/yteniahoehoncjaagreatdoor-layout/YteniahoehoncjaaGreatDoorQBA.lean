import Derived.Test.YteniahoehoncjaaGreatDoorRows
import Derived.Test.YteniahoehoncjaaGreatDoorQAZ
import Derived.Test.YteniahoehoncjaaGreatDoorQAH
import Derived.MakeChecks
set_option maxHeartbeats 99999999
set_option maxRecDepth 100000
namespace Go.Proofs.YteniahoehoncjaaGreatDoor
open Go.RowKit
theorem Bg {P:Program}{W:World}:∀{l:List (String×DataW Unit)} {ps:List MemPlace},DataW.LaidVars P W l ps->∀{n:String} {d:DataW Unit},(n,d)∈l->
 ∃g t cs fuel p,P.globalNamed n=some g/\(P.globals[g]?).map (·.type)=some t/\W.var? P n=some cs/\DataW.trod (λ_=>()) P W 0 (λ_=>true) false fuel t cs.toList=some (d,p)
 |[],_,_,n,d,hm=>by simp at hm
 | (n',d')::r,ps,h,n,d,hm=>by
   obtain ⟨g,t,cs,fuel,p,q,h1,h2,h3,h4,h5,-⟩:=h;rw [bY] at hm;rcases hm with e|hm
   . cases e
     exact ⟨g,t,cs,fuel,p,h1,h2,h3,h4⟩
   . exact Bg h5 hm
theorem Ij {P:Program}{w:World}{fuel:Nat}{t e:TypeId}{n:Nat}{cs:List Value}{zs:List (List UInt8)}{p:List MemPlace}
 (ht:P.underlying t=some (.array n e)) (he:P.underlying e=some .string) (hce:P.cellsOf e=1) (hct:P.cellsOf t=n)
 (h:DataW.trod (λ_=>()) P w 0 (λ_=>true) false fuel t cs=some (.agg (zs.map λz=>.lit (.string z)),p)):cs=zs.map λz=>Value.string ⟨z.toArray⟩:=by
 cases fuel with
 |zero=>simp [DataW.trod] at h
 |succ fuel=>
   simp only [DataW.trod,ht,hce,hct,Nat.mul_one] at h;split at h
   . rename_i hl
     obtain ⟨xs,hm,hx⟩:=dZ.1 h;have hxs:xs.map (·.1)=zs.map λz=>(DataW.lit (.string z):DataW Unit):=by
      have:=aU Prod.fst hx;simpa using this
     have hxl:xs.length=n:=by simpa using Lib.mapM_length hm
     have hzl:zs.length=n:=by
      have:=aU List.length hxs;simp at this;omega
     apply cX;intro i;by_cases hi:i<n
     . obtain ⟨b,hb,hf⟩:=Lib.mapM_at hm i i (by simp [hi])
       obtain ⟨z,hc,rfl,_⟩:=sB he hf;have h1:cs[i]?=some (.string z):=by
        have:=aU (·[0]?) hc;simpa [List.getElem?_take,List.getElem?_drop] using this
       have h2:(xs.map (·.1))[i]?=some (DataW.lit (.string z.data.toList):DataW Unit):=by simp [hb]
       rw [hxs] at h2;simp only [List.getElem?_map,Option.map_eq_some_iff,DataW.lit.injEq,Lit.string.injEq] at h2;obtain ⟨z',hz',rfl⟩:=h2;simp [h1,hz']
     . rw [bp (by omega),bp (by simp;omega)]
   . cases h
theorem Cj {W:World}{l:List (String×DataW Unit)}{n:String}{g m:Nat}{t:TypeId}{zs:List (List UInt8)}(hL:laidMet Tryz.prog l W)(hm:(n,(.agg (zs.map λz=>.lit (.string z)):DataW Unit))∈l)
 (hg:Tryz.prog.globalNamed n=some g) (hty:(Tryz.prog.globals[g]?).map (·.type)=some t) (ht:Tryz.prog.underlying t=some (.array m 9)) (hct:Tryz.prog.cellsOf t=m) (i:Nat) (z:List UInt8) (hi:zs[i]?=some z):W.cell? ⟨g,i,none⟩=some (.string ⟨z.toArray⟩):=by
 obtain ⟨ps,hl,-⟩:=hL;obtain ⟨g',t',cs,fuel,p,h1,h2,h3,h4⟩:=Bg hl hm;obtain rfl:=aS (hg.symm.trans h1);obtain rfl:=aS (hty.symm.trans h2);have h5:=Ij ht Tryz.underlying9 (by kernel_rfl) hct h4;have h6:=World.var?_cell hg h3 i;rw [h6,<- Array.getElem?_toList,h5,a7,hi];rfl
theorem NM {W:World}{l:List (String×DataW Unit)}{n:String}{g m:Nat}{t e:TypeId}{k:IntKind}{zs:List Int}(hL:laidMet Tryz.prog l W)(hm:(n,(Lib.tabData k zs:DataW Unit))∈l)
 (hg:Tryz.prog.globalNamed n=some g) (hty:(Tryz.prog.globals[g]?).map (·.type)=some t) (ht:Tryz.prog.underlying t=some (.array m e)) (he:Tryz.prog.underlying e=some (.int k)) (hce:Tryz.prog.cellsOf e=1) (hct:Tryz.prog.cellsOf t=m):Lib.TabIs Tryz.prog W n k zs:=by
 obtain ⟨ps,hl,-⟩:=hL;obtain ⟨g',t',cs,fuel,p,h1,h2,h3,h4⟩:=Bg hl hm;obtain rfl:=aS (hg.symm.trans h1);obtain rfl:=aS (hty.symm.trans h2);unfold Lib.TabIs;rw [h3,<- Lib.cells_of_tab ht he hce hct h4]
theorem Ux {P:Program}{w:World}{fuel:Nat}{t:TypeId}{ms:Array (String×TypeId)}{cs:List Value}{x:DataW Unit×List MemPlace}(ht:P.underlying t=some (.interface ms))(h:DataW.trod (λ_=>()) P w 0 (λ_=>true) false fuel t cs=some x):cs=[.nilIface]\/∃u v,cs=[.iface u v]:=by
 cases fuel with
 |zero=>simp [DataW.trod] at h
 |succ n=>
   unfold DataW.trod at h;rw [ht] at h;split at h<;>simp_all
theorem QE {W:World}(hH:laidMetH Tryz.prog Rows.refusedRow.laid W)(hS:W.ShapedOpen Tryz.prog):Laid W/\(1<W.heap.size/\∀k,k<=2->W.cell? ⟨1,k,none⟩=some (.string (Ap k)))/\rW W/\vy W/\dK W:=by
 rw [MakeChecks.laidMetH_plain _ _ _ (by kernel_rfl)] at hH;have apd:I3 W:=cell_of_shapedOpen_int (g:=7) (t:=3) (zero:=#[.int .i64 0]) hS (by decide +kernel) (by kernel_rfl) rfl (by kernel_rfl) (by kernel_rfl) Tryz.underlying3;have hK:=Cj (zs:=[[105,110,116],[115,116,114],[98,111,111,108]]) (n:= "quarry/quarry.kindNames") (g:=1) hH (by simp [Rows.refusedRow,Rows.laid_quarry_quarry_kindNames]) (by kernel_rfl) (by kernel_rfl) Tryz.underlying212 (by kernel_rfl);have hT:=Cj (zs:=(bS.take 27).map λb=>b.data.toList) (n:= "quarry/quarryref.taken") (g:=0) hH (by simp [Rows.refusedRow,Rows.laid_quarry_quarryref_taken,bS,bs]) (by kernel_rfl) (by kernel_rfl) Tryz.underlying153 (by kernel_rfl);have hP:=Cj (zs:=uH.map λb=>b.data.toList) (n:= "quarry/quarry.spellings") (g:=2) hH (by simp [Rows.refusedRow,Rows.laid_quarry_quarry_spellings,uH,bS,ei,bs]) (by kernel_rfl) (by kernel_rfl) Tryz.underlying226 (by kernel_rfl);have hO:=NM (zs:=opsL.map λn:Nat=>(n:Int)) (k:=.i64) (n:= "quarry/quarry.operators") (g:=8) hH (by simp [Rows.refusedRow,Rows.laid_quarry_quarry_operators,opsL,Lib.tabData]) (by kernel_rfl) (by kernel_rfl) Tryz.underlying309 (by kernel_rfl) (by kernel_rfl) (by kernel_rfl);have hW:=NM (zs:=Lib.pow10Tab) (k:=.u64) (n:= "internal/strconv.uint64pow10") (g:=9) hH (by rw [show (Lib.tabData .u64 Lib.pow10Tab:DataW Unit)=Rows.laid_internal_strconv_uint64pow10 from by kernel_rfl];simp [Rows.refusedRow]) (by kernel_rfl) (by kernel_rfl) Tryz.underlying334 (by kernel_rfl) (by kernel_rfl) (by kernel_rfl);have zI:12<=W.heap.size:=by
  obtain ⟨ps,hl,-⟩:=hH;obtain ⟨g',t',cs,fuel,p,h1,h2,h3,h4⟩:=Bg hl (n:= "math/bits.deBruijn64tab") (d:=Rows.laid_math_bits_deBruijn64tab) (by simp [Rows.refusedRow]);obtain rfl:=aS ((show Tryz.prog.globalNamed "math/bits.deBruijn64tab"=some 11 by kernel_rfl).symm.trans h1);unfold World.var? at h3;rw [h1] at h3;simp only [Option.bind_some] at h3;rcases Nat.lt_or_ge 11 W.heap.size with h'|h'
  . omega
  . rw [Array.getElem?_eq_none h'] at h3;simp at h3
 have hE:BL W:=by
  obtain ⟨ps,hl,-⟩:=hH;obtain ⟨g',t',cs,fuel,p,h1,h2,h3,h4⟩:=Bg hl (n:= "strconv.ErrRange") (d:=Rows.laid_strconv_ErrRange) (by simp [Rows.refusedRow]);obtain rfl:=aS ((show Tryz.prog.globalNamed "strconv.ErrRange"=some 6 by kernel_rfl).symm.trans h1);obtain rfl:=aS ((show (Tryz.prog.globals[6]?).map (·.type)=some 208 by kernel_rfl).symm.trans h2);have h6:=World.var?_cell h1 h3 0;rw [<- Array.getElem?_toList] at h6;rcases Ux Tryz.underlying208 h4 with e|⟨u,v,e⟩
  . rw [e] at h6;exact ⟨_,h6,.inl rfl⟩
  . rw [e] at h6;exact ⟨_,h6,.inr ⟨_,_,rfl⟩⟩
 refine ⟨?_,⟨by omega,?_⟩,hW,⟨?_,hE,apd,zI⟩,?_⟩
 . intro i s hi
   have:=hT i s.data.toList (by rw [a7,hi];rfl);simpa using this
 . intro k hk
   have h3:k=0\/k=1\/k=2:=by omega
   rcases h3 with rfl|rfl|rfl
   . exact hK 0 _ rfl
   . exact hK 1 _ rfl
   . exact hK 2 _ rfl
 . intro i s hi
   have:=hP i s.data.toList (by rw [a7,hi];rfl);simpa using this
 . intro i n hi
   have cF:=(ak.mp hi).1;have:=hO.cell (show Tryz.prog.globalNamed "quarry/quarry.operators"=some 8 by kernel_rfl) i (by simpa using cF);rw [this];simp [List.getD,hi]
end Go.Proofs.YteniahoehoncjaaGreatDoor
