import Derived.Test.YteniahoehoncjaaGreatDoorQAY
import Derived.Test.YteniahoehoncjaaGreatDoorQSH
import Derived.Lib.ItoaLen
import Derived.Lib.AppendIntMem
set_option maxHeartbeats 99999999
set_option maxRecDepth 100000
namespace Go.Proofs.YteniahoehoncjaaGreatDoor
open Go.RowKit
def rW (w:World):Prop:=Lib.TabIs Tryz.prog w "internal/strconv.uint64pow10" .u64 Lib.pow10Tab
theorem rW.below {w w':World}{B:Nat}(h:rW w)(hb:Below B w w')(hB:w.heap.size<=B):rW w':=Lib.tabBelow_of_tabIs h w' (hb.mono hB)
def Z2 (c:aL)(k:Nat):List UInt8:=if c.null then [110,117,108,108] else if k=1 then [39]++c.s.data.toList++[39] else if k=2 then Lib.formatBool (decide (c.n=1)) else Lib.itoa c.n
theorem Re {c:aL}{k:Nat}(h:VH k c):(Z2 c k).length<=21:=by
 unfold Z2;split
 . decide
 . split
   . have h1:=EN h
     simp;omega
   . split
     . unfold Lib.formatBool;split<;>decide
     . exact Lib.itoa_length_le _ h.1.1 h.1.2
theorem Md {c:aL}{k:Nat}(hk:k<=2)(hn:S.bZ c.n){w:World}(hp:rW w)(hs:c.s.size<=12) :
 Calls Tryz.prog 90 #[.agg #[.bool c.null,.int .i64 c.n,.string c.s],.int .i64 k] w λe w'=>e=.returned (.string ⟨(Z2 c k).toArray⟩)/\Below w.heap.size w w':=by
 obtain ⟨cn,n,s⟩:=c;have kX:Below w.heap.size w (w.alloc (.cells #[.bool cn,.int .i64 n,.string s] 214)):=(ag _ _).alloc (af _) _;have HI:=hide (λ(w1:World) (h:Below w.heap.size w w1)=>Tryz.strconv_Itoa n hn.1 hn.2 w1 (hp.below h (af _)));have HF:=hide (λ(b:Bool) (w1:World)=>Tryz.strconv_FormatBool b w1);have HB:=hide kX;have HBZ:=hide (λ(w1:World) (h:Below w.heap.size w w1) k os=>h.trans (Lib.below_grow w.heap.size w1 h.size k os));have VC:s.size+2<=1000:=by simp at hs;omega
 clear hp kX hn hs;go_enter Tryz.func90,Tryz.ntmps90
 cases cn
 case true=>
  go_wp2_with fail;go_ret;exact ⟨rfl,ae HB⟩
 case false=>
  have QS:k=0\/k=1\/k=2:=by omega
  clear hk;rcases QS with rfl|rfl|rfl
  . go_wp2_with fail
    refine (ae HI _ (ae HB)).mono ?_;rintro e w1 ⟨rfl,k,os,rfl⟩;have eI:=hide (ae HBZ _ (ae HB) k os);go_wp2_with fail;go_ret;exact ⟨rfl,ae eI⟩
  . go_wp2_with fail
    go_ret;exact ⟨aU (λx=>Ending.returned (Value.string x)) (sR (Array.ext' (by simp [Z2]))),ae HB⟩
  . go_wp2_with fail
    refine (ae HF _ _).mono ?_;rintro e w1 ⟨rfl,rfl⟩;go_wp2_with fail;go_ret;exact ⟨rfl,ae HB⟩
def Hh (i:Nat):List UInt8:=if i=0 then [] else [44]
theorem E7 {B b:Nat}{l:List UInt8}{w:World}(i:Nat)(h:Lc B b l w)(hlen:l.length<=1000000)(hBw:B<=w.heap.size) :
 Calls Tryz.prog 87 #[.pointer (some ⟨b,0,none⟩),.int .i64 i] w λe w'=>e=.returned (.tuple #[])/\Lc B b (l++Hh i) w'/\pY B b w w':=by
 have HH:=hide h;have HC:=hide (Ao 44 h hlen hBw);clear h;go_enter Tryz.func87,Tryz.ntmps87;by_cases hi:i=0
 . subst hi
   go_wp2_with fail;refine bodyPost_end (results_none rfl _ _ _) rfl ?_;exact ⟨rfl,by simpa [Hh] using ae HH,pY.refl _ _ _⟩
 . have Ot:(0:Int)<i:=by omega
   go_wp2_with fail;refine (ae HC).mono ?_;rintro e w1 ⟨rfl,h1,bL⟩;have H1:=hide h1;have eI:=hide bL;clear h1 bL;go_wp2_with fail;refine bodyPost_end (results_none rfl _ _ _) rfl ?_;exact ⟨rfl,by simpa [Hh,hi] using ae H1,ae eI⟩
def Ap (k:Nat):ByteArray:=if k=0 then ⟨#[105,110,116]⟩ else if k=1 then ⟨#[115,116,114]⟩ else ⟨#[98,111,111,108]⟩
def oL (w:World):Prop:=1<w.heap.size/\∀k,k<=2->w.cell? ⟨1,k,none⟩=some (.string (Ap k))
theorem oL.below {w w':World}{B:Nat}(h:oL w)(hb:Below B w w')(hB:w.heap.size<=B):oL w':=⟨aF h.1 hb.size,λk hk=>(hb.cell (p:=⟨1,k,none⟩) (aF h.1 hB)).trans (h.2 k hk)⟩
def zc (cols:List cU)(j:Nat):List UInt8:=match cols[j]? with|some c=>Hh j++c.1.data.toList++[58]++(Ap c.2).data.toList|none=>[]
def qm (cols:List cU)(i:Nat):List UInt8:=(List.range i).flatMap (zc cols)
def fieldAt (cols:List cU)(row:List aL)(j:Nat):List UInt8:=match cols[j]? with|some c=>Hh j++Z2 (row.getD j eW) c.2|none=>[]
def pK (cols:List cU)(row:List aL)(i:Nat):List UInt8:=(List.range i).flatMap (fieldAt cols row)
def E8 (cols:List cU)(R:List (List aL))(r:Nat):List UInt8:=match R[r]? with|some row=>pK cols row cols.length++[10]|none=>[]
def mT (cols:List cU)(R:List (List aL))(i:Nat):List UInt8:=(List.range i).flatMap (E8 cols R)
def vx (cols:List cU)(R:List (List aL)):List UInt8:=qm cols cols.length++[10]++mT cols R R.length
theorem uF {α:Type}(f:Nat->List α)(i:Nat):(List.range (i+1)).flatMap f=(List.range i).flatMap f++f i:=by rw [qt,eM];simp
theorem uG {α:Type}(f:Nat->List α)(m:Nat):∀i,(∀j,j<i->(f j).length<=m)->((List.range i).flatMap f).length<=i*m
 |0,_=>by simp
 |i+1,h=>by
   have:=uG f m i (λj hj=>h j (by omega));have:=h i (by omega);rw [uF,au,lA];omega
def pS (cols:List cU):Prop:=cols.length<=5/\∀c∈cols,c.1.size<=8/\c.2<=2
theorem tE (i:Nat):(Hh i).length<=1:=by unfold Hh;split<;>simp
theorem E9 {cols:List cU}(h:pS cols)(j:Nat):(zc cols j).length<=20:=by
 unfold zc;split
 . rename_i c hc
   have h1:=(h.2 c (aG hc)).1;have h2:=tE j;have h3:(Ap c.2).data.toList.length<=4:=by unfold Ap;split;decide;split<;>decide
   simp only [List.length_append,List.length_cons,List.length_nil,Array.length_toList,ByteArray.size_data] at h3 ⊢;omega
 . simp
theorem CB {cols:List cU}{row:List aL}(hf:Ka cols row)(j:Nat):(fieldAt cols row j).length<=30:=by
 unfold fieldAt;split
 . rename_i c hc
   have cF:j<row.length:=by rw [hf.1];exact (ak.mp hc).1
   have h1:=Re (hf.2 j (row.getD j eW) c (by simp [List.getD,List.getElem?_eq_getElem cF]) hc);have h2:=tE j;rw [au];omega
 . simp
theorem Fa {cols:List cU}{R:List (List aL)}(h5:cols.length<=5)(hf:jh cols R)(r:Nat):(E8 cols R r).length<=200:=by
 unfold E8;split
 . rename_i row hr
   have:=uG (fieldAt cols row) 30 cols.length (λj _=>CB (hf row (aG hr)) j);unfold pK;rw [au,iH];omega
 . simp
theorem Me {cols:List cU}{i:Nat}{c:cU}(h:cols[i]?=some c):qm cols (i+1)=qm cols i++Hh i++c.1.data.toList++[58]++(Ap c.2).data.toList:=by
 unfold qm;rw [uF];simp [zc,h]
theorem Mf {cols:List cU}{row:List aL}{i:Nat}{c:cU}(h:cols[i]?=some c):pK cols row (i+1)=pK cols row i++Hh i++Z2 (row.getD i eW) c.2:=by
 unfold pK;rw [uF];simp [fieldAt,h]
theorem Aq {cols:List cU}{R:List (List aL)}{r:Nat}{row:List aL}(h:R[r]?=some row):mT cols R (r+1)=mT cols R r++pK cols row cols.length++[10]:=by
 unfold mT;rw [uF];simp [E8,h]
def De (w W0 wr:World)(l:List UInt8):Prop:=Lc (w.heap.size+1) (w.heap.size+1) l wr/\Below (w.heap.size+1) W0 wr
section
variable {w W0 wr w1:World} {l l1:List UInt8}
theorem De.big (h:De w W0 wr l):w.heap.size+1<wr.heap.size:=by
 rcases h.1 with ⟨-,v,h2,-⟩|⟨-,v,h2,-⟩<;>exact az h2
theorem De.below (h:De w W0 wr l)(hb:Below wr.heap.size wr w1):De w W0 w1 l:=⟨h.1.below hb,h.2.trans (hb.mono (eH h.big))⟩
theorem De.wrote (h:De w W0 wr l)(hb:Lc (w.heap.size+1) (w.heap.size+1) l1 w1)(hw:pY (w.heap.size+1) (w.heap.size+1) wr w1):De w W0 w1 l1:=⟨hb,h.2.trans hw.1⟩
end
theorem pY.keeps {B b k:Nat}{w w':World}{cs:Array Value}{t:TypeId}{f:Nat×Nat}(h:pY B b w w')(hk:w.heap[k]?=some (.cells cs t f))(hb:k≠b)(ht:t≠5):w'.heap[k]?=some (.cells cs t f):=
 h.2 k _ hk (λe=>hb (aS e)) (λc fz e=>by cases e;exact ht rfl)
theorem bj {w1:World}{r:Nat}{a b:Value}{t:TypeId}(h:w1.heap[r]?=some (.cells #[a,b] t (0,0))):w1.cell? ⟨r,0,none⟩=some a/\w1.cell? ⟨r,1,none⟩=some b:=by simp [World.cell?,h]
theorem Wg {cols:List cU}{R:List (List aL)}{cv bv:Value}{w:World}(hf:pS cols)(hR:jh cols R)(hRl:R.length<=1000)(hc:gq w cv cols)(hb:iC w bv (bX cols.length R))(hk:oL w)(hp:rW w) :
 Calls Tryz.prog 64 #[.agg #[cv,bv,.int .i64 R.length]] w λe w'=>e=.returned (.string ⟨(vx cols R).toArray⟩)/\Below w.heap.size w w':=by
 obtain ⟨ca,kV,rfl⟩:=hc.slice;obtain ⟨ba,rj,he⟩:=hb.slice;rw [bC] at he;subst he;obtain ⟨W0,Wh⟩:∃W0,W0=w.alloc (.cells #[.slice ca cols.length kV,.slice ba cols.length rj,.int .i64 R.length] 150):=⟨_,rfl⟩;have kX:Below w.heap.size w W0:=by rw [Wh];exact (ag _ _).alloc (af _) _
 have jS:W0.heap.size=w.heap.size+1:=by rw [Wh];simp
 have bW:W0.heap[w.heap.size]?=some (.cells #[.slice ca cols.length kV,.slice ba cols.length rj,.int .i64 R.length] 150 (0,0)):=by rw [Wh];exact ai w _
 have HS:=hide (λwr (h:Below (w.heap.size+1) W0 wr)=>(show gq wr (.slice ca cols.length kV) cols/\iC wr (.slice ba cols.length rj) (bX cols.length R)/\(wr.cell? ⟨w.heap.size,0,none⟩=some (.slice ca cols.length kV)/\wr.cell? ⟨w.heap.size,1,none⟩=some (.slice ba cols.length rj)/\wr.cell? ⟨w.heap.size,2,none⟩=some (.int .i64 R.length))/\oL wr/\rW wr from by
  have h1:Below w.heap.size w wr:=kX.trans (h.mono (by omega));exact ⟨hc.below h1 (af _),hb.below h1 (af _),aR ((h.block _ (by omega)).trans bW),hk.below h1 (af _),hp.below h1 (af _)⟩))
 have ang:=hide (λwr (h:Below (w.heap.size+1) W0 wr)=>kX.trans (h.mono (cq _)));have LC:Hid (De w W0 (W0.alloc (.cells #[.pointer none,.slice none 0 0] 205)) []):=hide ⟨by
  have:=Lib.fresh_isBuilder 205 5 W0;rw [jS] at this;exact this,by rw [<- jS];exact (ag _ _).alloc (af _) _⟩
 obtain ⟨z0,z1,z2⟩:=aR bW;have HW0:=hide Wh;have HF:=hide hf;have HR:=hide hR;have h5:=hf.1;have HHL:Hid (∀i,i<=cols.length->(qm cols i).length<=100):=hide (λi hi=>aw (uG _ 20 i (λj _=>E9 hf j)) (by omega));have DL:Hid (∀r,r<=R.length->(mT cols R r).length<=200000):=hide (λr hr=>aw (uG _ 200 r (λj _=>Fa h5 hR j)) (by omega));clear hc hb hk hp kX jS bW hf hR Wh;go_enter Tryz.func64,Tryz.ntmps64;go_wp2_with fail;rw [<- ae HW0];go_loopw [12] (λc wr=>∃i:Nat,i<=cols.length/\c=.int .i64 i/\Hid (De w W0 wr (qm cols i))) (λc _=>cols.length - (intOf c).toNat)
 case atStart=>exact ⟨0,aN _,rfl,LC⟩
 case round=>
  obtain ⟨i,hi,rfl,HT⟩:=hrel;by_cases cF:i<cols.length
  . have jI:(i:Int)<cols.length:=by omega
    obtain ⟨c,kM⟩:∃c,cols[i]?=some c:=⟨_,ah cF⟩;obtain ⟨hcs,hck⟩:=(ae HF).2 c (aG kM);obtain ⟨Bo,-,-,-⟩:=ae HS wr (ae HT).2;obtain ⟨cg,co,LW,he,d0,d1⟩:=gq.get Bo kM
    cases he
    obtain ⟨W1,qH⟩:∃W1,W1=wr.alloc (.cells #[.string c.1,.int .i64 c.2] 191):=⟨_,rfl⟩;have bL:Below wr.heap.size wr W1:=by rw [qH];exact (ag _ _).alloc (af _) _
    have nN:W1.heap[wr.heap.size]?=some (.cells #[.string c.1,.int .i64 c.2] 191 (0,0)):=by rw [qH];exact ai wr _
    have vH:=hide nN;have UW:=hide ((ae HT).below bL);have BI:=(ae HT).big;have HD:=hide (E7 i (ae UW).1 (aw (ae HHL i hi) (by omega)) (eH (ae UW).big));have HHS:=hide (Me kM);have NY:=ae HHL i hi;have xX:=hide qH;clear qH bL nN Bo kM;go_wp2_with fail;rw [<- ae xX];refine (ae HD).mono ?_;rintro e w1 ⟨rfl,oq,o9⟩;have Ld:=hide ((ae UW).wrote oq o9);have um:=hide (o9.keeps (ae vH) (by omega) (by decide));have HD2:=hide (Kk c.1 oq (by rw [au];have:=tE i;omega) (by omega) (eH (ae Ld).big));obtain ⟨q0,q1⟩:=bj (ae um);clear oq o9 HD vH UW d0 d1;go_wp2_with fail;refine (ae HD2).mono ?_;rintro e w2 ⟨rfl,oq,o9⟩;have UX:=hide ((ae Ld).wrote oq o9);have Bi:=hide (o9.keeps (ae um) (by omega) (by decide));have HD3:=hide (Ao 58 oq (by simp only [List.length_append,Array.length_toList,ByteArray.size_data];have:=tE i;omega) (eH (ae UX).big));clear oq o9 HD2 um Ld q0 q1;go_wp2_with fail;refine (ae HD3).mono ?_;rintro e w3 ⟨rfl,oq,o9⟩;have YK:=hide ((ae UX).wrote oq o9);have Cq:=hide (o9.keeps (ae Bi) (by omega) (by decide));have hkz:(Ap c.2).size<=4:=by unfold Ap;split;decide;split<;>decide
    have HD4:=hide (Kk (Ap c.2) oq (by simp only [List.length_append,Array.length_toList,ByteArray.size_data,List.length_cons,List.length_nil];have:=tE i;omega) (by omega) (eH (ae YK).big));obtain ⟨q0,q1⟩:=bj (ae Cq);obtain ⟨-,-,-,yG,-⟩:=ae HS w3 (ae YK).2;have k0:=yG.2 c.2 hck;have as9:((c.2:Nat):Int)<3:=by omega
    clear oq o9 HD3 Bi UX yG hkz;go_wp2_with fail;refine (ae HD4).mono ?_;rintro e w4 ⟨rfl,oq,o9⟩;have HT5:=hide ((ae YK).wrote oq o9);rw [<- ae HHS] at HT5;clear oq o9 HD4 Cq YK q0 q1 k0;go_wp2_with fail;go_roundw
    case rel=>exact ⟨i+1,by omega,by go_num,HT5⟩
    case measure=>simp [intOf];omega
  . obtain rfl:i=cols.length:=by omega
    have NY:=ae HHL cols.length (af _);have HD:=hide (Ao 10 (ae HT).1 (by omega) (eH (ae HT).big));clear z0 z1 z2;go_wp2_with fail;refine (ae HD).mono ?_;rintro e w1 ⟨rfl,oq,o9⟩;have Ld:=hide ((ae HT).wrote oq o9);obtain ⟨-,-,⟨z0,z1,z2⟩,-,-⟩:=ae HS w1 (ae Ld).2;clear oq o9 HD HT;obtain ⟨pre,Wi⟩:∃pre,pre=qm cols cols.length++[10]:=⟨_,rfl⟩;have QP:pre.length<=101:=by rw [Wi,au];simp;omega
    have HPE:Hid (vx cols R=pre++mT cols R R.length):=hide (by rw [Wi];rfl);have HNE:Hid (pre=qm cols cols.length++[10]):=hide Wi;rw [<- Wi] at Ld;clear Wi NY;go_wp2_with fail;go_loopw [32] (λc wr=>∃r:Nat,r<=R.length/\c=.int .i64 r/\Hid (De w W0 wr (pre++mT cols R r))) (λc _=>R.length - (intOf c).toNat)
    case atStart=>exact ⟨0,aN _,rfl,by simpa [mT] using Ld⟩
    case round=>
     obtain ⟨r,hr,rfl,HTr⟩:=hrel;by_cases hrt:r<R.length
     . have atc:(r:Int)<R.length:=by omega
       obtain ⟨row,gC⟩:∃row,R[r]?=some row:=⟨_,ah hrt⟩;have SN:=hide (ae HR row (aG gC));have HLS:=hide (Aq (cols:=cols) gC);have HRW:=hide gC;have Db:=ae DL r hr;obtain ⟨pr,hpr⟩:∃pr,pr=pre++mT cols R r:=⟨_,rfl⟩;have atd:pr.length<=201000:=by rw [hpr,au];omega
       have UE:Hid (pre++mT cols R (r+1)=pr++pK cols row cols.length++[10]):=hide (by rw [ae HLS,hpr];simp);rw [<- hpr] at HTr;have HFL:Hid (∀i,i<=cols.length->(pK cols row i).length<=150):=hide (λi hi=>aw (uG _ 30 i (λj _=>CB (ae SN) j)) (by omega));obtain ⟨-,-,⟨y0,y1,y2⟩,-,-⟩:=ae HS wr (ae HTr).2;clear hpr HLS gC z0 z1 z2;go_wp2_with fail;go_loopw [38] (λc wr=>∃i:Nat,i<=cols.length/\c=.int .i64 i/\Hid (De w W0 wr (pr++pK cols row i))) (λc _=>cols.length - (intOf c).toNat)
       case atStart=>exact ⟨0,aN _,rfl,by simpa [pK] using HTr⟩
       case round=>
        obtain ⟨i,hi,rfl,HT⟩:=hrel;by_cases cF:i<cols.length
        . have jI:(i:Int)<cols.length:=by omega
          obtain ⟨c,kM⟩:∃c,cols[i]?=some c:=⟨_,ah cF⟩;obtain ⟨hcs,hck⟩:=(ae HF).2 c (aG kM);obtain ⟨Bo,-,-,-⟩:=ae HS wr (ae HT).2;obtain ⟨cg,co,LW,he,d0,d1⟩:=gq.get Bo kM
          cases he
          obtain ⟨W1,qH⟩:∃W1,W1=wr.alloc (.cells #[.string c.1,.int .i64 c.2] 191):=⟨_,rfl⟩;have bL:Below wr.heap.size wr W1:=by rw [qH];exact (ag _ _).alloc (af _) _
          have nN:W1.heap[wr.heap.size]?=some (.cells #[.string c.1,.int .i64 c.2] 191 (0,0)):=by rw [qH];exact ai wr _
          have vH:=hide nN;have UW:=hide ((ae HT).below bL);have BI:=(ae HT).big;have NY:=ae HFL i hi;have Kc:(pr++pK cols row i).length<=300000:=by rw [au];omega
          have HD:=hide (E7 i (ae UW).1 (by omega) (eH (ae UW).big));have HHS:=hide (Mf (row:=row) kM);have hxl:i<row.length:=by rw [(ae SN).1];exact cF
          obtain ⟨x,hx⟩:∃x,row[i]?=some x:=⟨_,ah hxl⟩;have hxd:row.getD i eW=x:=by simp [List.getD,hx]
          rw [hxd] at HHS;have hfx:=(ae SN).2 i x c hx kM;have HFX:=hide hfx;have HCX:Hid ((bX cols.length R)[i]?=some (R.map λr=>r.getD i eW)/\(R.map λr=>r.getD i eW)[r]?=some x):=hide ⟨kz cF,by rw [a7,ae HRW];exact aU some hxd⟩;have xX:=hide qH;clear qH bL nN Bo kM hx hxd hfx hxl NY;go_wp2_with fail;rw [<- ae xX];refine (ae HD).mono ?_;rintro e w1 ⟨rfl,oq,o9⟩;have Ld:=hide ((ae UW).wrote oq o9);have um:=hide (o9.keeps (ae vH) (by omega) (by decide));have eI:=hide oq;obtain ⟨q0,q1⟩:=bj (ae um);obtain ⟨-,hbr,⟨x0,x1,x2⟩,-,Yv⟩:=ae HS w1 (ae Ld).2;obtain ⟨bg,bo,ahK,u,he,-,b0,hu⟩:=hbr.OQ (ae HCX).1;rw [bC] at he
          cases he
          obtain ⟨vg,vo,cJ,rfl,v0,v1,v2⟩:=lD.get hu (ae HCX).2;rw [aW] at b0;have R5:=hide (Md (w:=w1.drew) (c:=x) (k:=c.2) hck (ae HFX).1 (Yv.below (aJ (ag _ _)) (af _)) (EN (ae HFX)));clear oq o9 HD vH UW d0 d1 hbr Yv hu;have pC:=hide (λ(w2:World) (h2:Below w1.heap.size w1 w2)=>(ae Ld).below h2);have HSS:=hide (λ(w2:World) (h2:Below w1.heap.size w1 w2)=>Kk ⟨(Z2 x c.2).toArray⟩ ((ae Ld).below h2).1 (by rw [au];have:=tE i;omega) (by have:=Re (ae HFX);show (Z2 x c.2).toArray.size<=_;rw [sx];omega) (eH ((ae Ld).below h2).big));go_wp2_with fail;go_region_with (first
           | (go_at_call 90;refine (ae R5).mono ?_;rintro e w2 ⟨rfl,bO⟩;have jg:=hide ((aJ (ag w1.heap.size w1)).trans bO);clear bO)
           | (go_at_call 88;refine (ae HSS _ (ae jg)).mono ?_;rintro e w3 ⟨rfl,vN,Rf⟩;have UX:=hide ((ae pC _ (ae jg)).wrote vN Rf);clear vN Rf))
          all_goals
           rw [show pr++pK cols row i++Hh i++(ByteArray.mk (Z2 x c.2).toArray).data.toList=pr++pK cols row (i+1) by rw [ae HHS];simp] at UX
           (try go_wp2_with fail)
           go_roundw
           case rel=>exact ⟨i+1,by omega,by go_num,UX⟩
           case measure=>simp [intOf];omega
        . obtain rfl:i=cols.length:=by omega
          have NY:=ae HFL cols.length (af _);have HD:=hide (Ao 10 (ae HT).1 (by rw [au];omega) (eH (ae HT).big));clear y0 y1 y2;go_wp2_with fail;refine (ae HD).mono ?_;rintro e w2 ⟨rfl,oq,o9⟩;have UX:=hide ((ae HT).wrote oq o9);rw [<- ae UE] at UX;clear oq o9 HD HT;go_wp2_with fail
          first
          |exact ⟨⟨r+1,by omega,by go_num,UX⟩,by simp [intOf];omega⟩
          | (go_roundw
             case rel=>exact ⟨r+1,by omega,by go_num,UX⟩
             case measure=>simp [intOf];omega)
     . obtain rfl:r=R.length:=by omega
       have Db:=ae DL R.length (af _);have HD:=hide (Wf (ae HTr).1 (by rw [ae HNE];exact List.append_ne_nil_of_left_ne_nil (by simp) _) (by rw [au];omega));clear z0 z1 z2;go_wp2_with fail;refine (ae HD).mono ?_;rintro e w2 ⟨rfl,o9⟩;have HE:=hide (ae ang _ ((ae HTr).2.trans o9));clear o9 HD;go_wp2_with fail;go_ret;exact ⟨by rw [ae HPE];rfl,ae HE⟩
theorem qb {fn:Func}{a:Tmp}(h:fn.results=#[.cell a 72]){tmps:Array Value}{r:Nat}{x y:Value}{w:World}(hp:tmps.getD a undef=.pointer (some ⟨r,0,none⟩))(h0:w.cell? ⟨r,0,none⟩=some x)(h1:w.cell? ⟨r,1,none⟩=some y):(results fn tmps).run Tryz.prog w=.ok (.agg #[x,y]) w:=by
 have hp':tmps[a]?.getD undef=.pointer (some ⟨r,0,none⟩):=by simpa using hp
 simp [results,h,hp',go_sem,h0,h1]
 try rfl
end Go.Proofs.YteniahoehoncjaaGreatDoor
