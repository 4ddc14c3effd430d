import Derived.Test.YteniahoehoncjaaGreatDoorQAS
import Derived.Shelf.Strings.BuilderK
import Derived.Lib.OwnKind
set_option maxHeartbeats 99999999
set_option maxRecDepth 100000
namespace Go.Proofs.YteniahoehoncjaaGreatDoor
open Go.RowKit
theorem Tryz.sizeBuilder:(Tryz.prog.info? 205).map (·.size)=some 2:=by kernel_rfl
theorem Tryz.liesBuilder:liesAt Tryz.prog Tryz.prog.depth 205 (2 / Tryz.prog.cellsOf 205) 0 205 1=true:=by kernel_rfl
theorem Tryz.IU:(Tryz.prog.info? 5).map (λi=>(i.zero,i.size,i.bytes))=some (some (.int .u8 0),1,1):=by kernel_rfl
theorem Tryz.cellsByte:Tryz.prog.cellsOf 5=1:=by kernel_rfl
abbrev Lc (B b:Nat)(l:List UInt8)(w:World):Prop:=Lib.IsBuilder 205 5 B b (Lib.byteCells l) w
def pY (B b:Nat)(w w':World):Prop:=Below B w w'/\Lib.OthersKept 5 (some b) w w'
theorem pY.trans {B b:Nat}{w w1 w2:World}(h:pY B b w w1)(h2:pY B b w1 w2):pY B b w w2:=⟨h.1.trans h2.1,h.2.trans h2.2⟩
theorem pY.refl (B b:Nat)(w:World):pY B b w w:=⟨ag _ _,Lib.OthersKept.refl _ _ _⟩
theorem Lc.below {B b:Nat}{l:List UInt8}{w w':World}(h:Lc B b l w)(hb:Below w.heap.size w w'):Lc B b l w':=by
 have key:∀p,Lib.BuilderAt 205 5 B b p (Lib.byteCells l) w->Lib.BuilderAt 205 5 B b p (Lib.byteCells l) w':=λp ⟨h1,v,h2,h3,h4⟩=>⟨h1,v,(hb.block b (az h2)).trans h2,du h3 hb,h4⟩;exact h.imp (key _) (key _)
theorem Wd (b:Nat)(w:World)(h0:w.cell? ⟨b,0,none⟩=some (.pointer (some ⟨b,0,none⟩))) :
 Calls Tryz.prog 119 #[.pointer (some ⟨b,0,none⟩)] w λe w'=>e=.returned (.tuple #[])/\w'=w:=by
 obtain ⟨j,hj,_⟩:=dZ.1 Tryz.sizeBuilder;go_enter Tryz.func119,Tryz.ntmps119;go_wp2;rw [Lib.run_neq_ptr_same w _ Tryz.underlying202 hj];go_wp2;go_end0;exact ⟨rfl,rfl⟩
theorem SM (b:Nat)(w:World)(h0:w.cell? ⟨b,0,none⟩=some (.pointer none))(Dd:w.shape? b=some (205,2))(hfz:w.frozen? ⟨b,0,none⟩=false) :
 Calls Tryz.prog 119 #[.pointer (some ⟨b,0,none⟩)] w λe w'=>e=.returned (.tuple #[])/\w'=w.setCell ⟨b,0,none⟩ (.pointer (some ⟨b,0,none⟩)):=by
 obtain ⟨j,hj,hjs⟩:=dZ.1 Tryz.sizeBuilder;go_enter Tryz.func119,Tryz.ntmps119;go_wp2;rw [Lib.run_to_unsafe w ⟨b,0,none⟩ Tryz.underlying202 Tryz.underlying271 hj (by rw [hjs];decide) Dd (Nat.zero_lt_succ 1)];simp only [Result.andThen];rw [Oper.upon_value];go_wp2;rw [run_callFunc_extern Tryz.func141 (by kernel_rfl) (by kernel_rfl) (by kernel_rfl) (e:=Extern.AbiNoEscape.same) (by kernel_rfl)];rw [Lib.run_noEscape];simp only [Result.andThen];rw [Oper.upon_value];go_wp2;rw [Lib.run_from_unsafe w ⟨b,0,none⟩ Tryz.underlying271 Tryz.underlying202 hj Dd Tryz.liesBuilder];simp only [Result.andThen];rw [Oper.upon_value];go_wp2;go_end0;exact ⟨rfl,rfl⟩
theorem IV (B b:Nat)(bs:List Value)(w:World)(h:Lib.IsBuilder 205 5 B b bs w) :
 Calls Tryz.prog 119 #[.pointer (some ⟨b,0,none⟩)] w λe w'=>e=.returned (.tuple #[])/\Lib.BuilderAt 205 5 B b (.pointer (some ⟨b,0,none⟩)) bs w'/\pY B b w w':=by
 rcases h with h|h
 . refine (SM b w h.cell0 h.shape h.frozen0).mono ?_
   rintro e w' ⟨rfl,rfl⟩;exact ⟨rfl,h.used _,(ag B w).setCell (p:=⟨b,0,none⟩) h.1 _,(Lib.OthersKept.refl _ _ w).setCell ⟨b,0,none⟩ rfl _⟩
 . refine (Wd b w h.cell0).mono ?_
   rintro e w' ⟨rfl,rfl⟩;exact ⟨rfl,h,pY.refl B _ _⟩
theorem Lc.of {B b:Nat}{l:List UInt8}{w:World}(h:Lib.BuilderAt 205 5 B b (.pointer (some ⟨b,0,none⟩)) (Lib.byteCells l) w):Lc B b l w:=.inr h
theorem tD {b:Nat}{p v:Value}{w:World}(BF:w.heap[b]?=some (.cells #[p,v] 205 (0,0))):w.cell? ⟨b,0,none⟩=some p/\w.cell? ⟨b,1,none⟩=some v/\w.frozen? ⟨b,1,none⟩=false/\b<w.heap.size:=
 ⟨by rw [Lib.cell_of_heap BF];rfl,by rw [Lib.cell_of_heap BF];rfl,Lib.frozen_of_heap BF 1,az BF⟩
theorem Ao {B b:Nat}{l:List UInt8}(c:UInt8){w:World}(h:Lc B b l w)(hlen:l.length<=1000000)(hBw:B<=w.heap.size) :
 Calls Tryz.prog 89 #[.pointer (some ⟨b,0,none⟩),.int .u8 c.toNat] w λe w'=>e=.returned .nilIface/\Lc B b (l++[c]) w'/\pY B b w w':=by
 obtain ⟨i0,hi,jS,jD,jv⟩:=lE Tryz.IU;have HC:=hide (IV B b _ w h);clear h;go_enter Tryz.func89,Tryz.ntmps89;go_wp2_with fail;refine (ae HC).mono ?_;rintro e w1 ⟨rfl,⟨hB,v,BF,br,iq⟩,bL,nN⟩;obtain ⟨c0,c1,-,cF⟩:=tD BF;have Zq:=bL.size;have hll:(Lib.byteCells l).length=l.length:=Lib.byteCells_length l;have HO:=hide (br.alloc (.cells #[.int .u8 c.toNat] 5));have HBK:=hide BF;have DL:=hide hll;clear BF br hll;go_wp2_with (at_builtin;refine oY _ rfl _ _ 203 rfl B 5 i0 (.int .u8 0) 1 1 Tryz.underlying203 hi jS jD jv rfl (by decide) _ _ _ rfl (ae HO) ⟨w1.heap.size,0,none⟩ 1 1 [.int .u8 c.toNat] rfl rfl (λj u hj=>by match j,hj with|0,hj=>simp at hj;subst hj;simp [Addr.add]) (λu hu=>by simp at hu;subst hu;rfl) (by rw [ae DL];unfold maxLen;omega) (by rw [ae DL];omega) (by simp;omega) ?_);intro v' w2 gS bE _;have BF:=ae HBK;have bO:w2.heap[b]?=some (.cells #[.pointer (some ⟨b,0,none⟩),v] 205 (0,0)):=by
  rw [bE.block b (by simp;omega) (λe=>iq e.symm),Lib.alloc_old w1 _ b cF];exact BF
 obtain ⟨d0,d1,f1,-⟩:=tD bO;obtain ⟨g,cap,rfl⟩:∃g cap,v'=.slice (some ⟨g,0,none⟩) ((Lib.byteCells l).length+1) cap:=by
  rcases gS.2 with ⟨_,h0⟩|⟨g,cap,cur,hv,_⟩
  . omega
  . exact ⟨g,cap,hv⟩
 have HE:Hid (Lc B b (l++[c]) (w2.setCell ⟨b,1,none⟩ (.slice (some ⟨g,0,none⟩) ((Lib.byteCells l).length+1) cap))/\pY B b w (w2.setCell ⟨b,1,none⟩ (.slice (some ⟨g,0,none⟩) ((Lib.byteCells l).length+1) cap))):=hide ⟨Lc.of (Lib.BuilderAt.put (T:=205) (e:=5) hB bO (bs':=Lib.byteCells (l++[c])) (by simpa [Lib.byteCells] using gS) (by decide)),((bL.alloc (by omega) _).grown bE (by simp;omega) (λk hk=>((ae HO).lt k hk).1)).setCell (p:=⟨b,1,none⟩) hB _,((nN.alloc _).grown bE (Lib.ownsRow_kind (ae HO))).setCell ⟨b,1,none⟩ rfl _⟩;clear bO BF gS bE;go_wp2_with fail;go_ret;exact ⟨rfl,ae HE⟩
theorem Kk {B b:Nat}{l:List UInt8}(s:ByteArray){w:World}(h:Lc B b l w)(hlen:l.length<=1000000)(hs:s.size<=1000000)(hBw:B<=w.heap.size) :
 Calls Tryz.prog 88 #[.pointer (some ⟨b,0,none⟩),.string s] w λe w'=>e=.returned (.tuple #[.int .i64 s.size,.nilIface])/\Lc B b (l++s.data.toList) w'/\pY B b w w':=by
 obtain ⟨i0,hi,jS,jD,jv⟩:=lE Tryz.IU;have HC:=hide (IV B b _ w h);clear h;go_enter Tryz.func88,Tryz.ntmps88;go_wp2_with fail;refine (ae HC).mono ?_;rintro e w1 ⟨rfl,⟨hB,v,BF,br,iq⟩,bL,nN⟩;obtain ⟨c0,c1,-,cF⟩:=tD BF;have Zq:=bL.size;have DL:=hide (Lib.byteCells_length l);have HO:=hide br;have HBK:=hide BF;clear BF br;go_wp2_with (at_builtin;refine Lib.wpList_append_own_string _ rfl _ _ 203 9 rfl B 5 i0 Tryz.underlying203 Tryz.underlying9 hi jS jD jv _ _ _ rfl (ae HO) s rfl (by rw [ae DL];unfold maxLen;omega) (by rw [ae DL];omega) (by omega) ?_);intro v' w2 gS bE _;have BF:=ae HBK;have bO:w2.heap[b]?=some (.cells #[.pointer (some ⟨b,0,none⟩),v] 205 (0,0)):=by
  rw [bE.block b cF (λe=>iq e.symm)];exact BF
 obtain ⟨d0,d1,f1,-⟩:=tD bO;obtain ⟨ao,n',cap,rfl⟩:∃ao n' cap,v'=.slice ao n' cap:=by
  rcases gS.2 with ⟨hv,_⟩|⟨g,cap,cur,hv,_⟩
  . exact ⟨_,_,_,hv⟩
  . exact ⟨_,_,_,hv⟩
 have HE:Hid (Lc B b (l++s.data.toList) (w2.setCell ⟨b,1,none⟩ (.slice ao n' cap))/\pY B b w (w2.setCell ⟨b,1,none⟩ (.slice ao n' cap))):=hide ⟨Lc.of (Lib.BuilderAt.put (T:=205) (e:=5) hB bO (bs':=Lib.byteCells (l++s.data.toList)) (by
  have e:Lib.byteCells (l++s.data.toList)=Lib.byteCells l++Lib.strCells s:=by simp [Lib.byteCells,Lib.strCells]
  rw [e];simpa [Lib.strCells_length] using gS) (by decide)),(bL.grown bE (by omega) (λk hk=>((ae HO).lt k hk).1)).setCell (p:=⟨b,1,none⟩) hB _,(nN.grown bE (Lib.ownsRow_kind (ae HO))).setCell ⟨b,1,none⟩ rfl _⟩
 clear bO BF gS bE;go_wp2_with fail;go_ret2;exact ⟨rfl,ae HE⟩
theorem Wf {B b:Nat}{l:List UInt8}{w:World}(h:Lc B b l w)(h0:l≠[])(hlen:l.length<=1000000) :
 Calls Tryz.prog 91 #[.pointer (some ⟨b,0,none⟩)] w λe w'=>e=.returned (.string ⟨l.toArray⟩)/\Below B w w':=by
 obtain ⟨p,hB,v,BF,br,iq⟩:∃p,Lib.BuilderAt 205 5 B b p (Lib.byteCells l) w:=by rcases h with h|h<;>exact ⟨_,h⟩
 have NY:l.length≠0:=by simpa using h0
 rw [Lib.byteCells_length] at br;obtain ⟨g,cap,cur,rfl,hbg,hg,hnc,sS,hcs,-⟩:∃g cap cur,v=.slice (some ⟨g,0,none⟩) l.length cap/\B<=g/\w.heap[g]?=some (.cells cur 5 (0,0))/\l.length<=cap/\cap<=maxLen/\cur.size=cap*1/\cur.toList.take (l.length*1)=Lib.byteCells l:=by
  rcases br.2 with ⟨_,hz⟩|⟨g,cap,cur,hv,r⟩
  . exact absurd hz NY
  . exact ⟨g,cap,cur,hv,r⟩
 have c1:w.drew.cell? ⟨b,1,none⟩=some (.slice (some ⟨g,0,none⟩) l.length cap):=(tD (w:=w.drew) BF).2.1;have hSD:(Builtin.unsafeSliceData_ #[203] 251 #[.slice (some ⟨g,0,none⟩) l.length cap]).run Tryz.prog w.drew=.ok (.pointer (some ⟨g,0,none⟩)) w.drew:=Lib.run_unsafeSliceData_row _ _ _ _ _ _ (by omega);have hUS:(Builtin.unsafeString_ #[251,3] 9 #[.pointer (some ⟨g,0,none⟩),.int .i64 l.length]).run Tryz.prog w.drew=.ok (.string ⟨l.toArray⟩) (w.drew.freeze ⟨g,0,none⟩ l.length):=
  Lib.run_unsafeString_row w.drew 251 3 9 5 Tryz.underlying251 Tryz.cellsByte g cur.size (by have Gp:w.drew.heap[g]?=some (.cells cur 5 (0,0)):=hg;simp [World.shape?,Gp]) l h0 (by omega) (by omega) (λj x hx=>br.cells (g:=g) rfl j (.int .u8 x.toNat) (by simp [Lib.byteCells,hx]))
 have HE:=hide (Lib.below_freeze (Below.drew (ag B w)) (p:=⟨g,0,none⟩) hbg l.length);clear br hg BF;go_enter Tryz.func91,Tryz.ntmps91;go_wp2_with fail;go_region
 all_goals
  (try go_wp2_with fail)
  go_ret;exact ⟨rfl,ae HE⟩
end Go.Proofs.YteniahoehoncjaaGreatDoor
