import Derived.Test.YteniahoehoncjaaGreatDoorQAC
set_option maxHeartbeats 99999999
set_option maxRecDepth 100000
namespace Go.Proofs.YteniahoehoncjaaGreatDoor
open Go.RowKit
def zg (S:ByteArray)(i:Nat):Tk:=
 if h2:aM S eE (i+1)<S.size then (if S[aM S eE (i+1)].toNat=39/\aM S eE (i+1) - i - 1<=12 then .str (S.extract (i+1) (aM S eE (i+1))) else .bad) else .bad
def qI (S:ByteArray)(i:Nat):Nat:=
 if h2:aM S eE (i+1)<S.size then (if S[aM S eE (i+1)].toNat=39/\aM S eE (i+1) - i - 1<=12 then aM S eE (i+1) - i - 1 else 0) else 0
theorem Ar {S:ByteArray}{i e:Nat}(he:aM S eE (i+1)=e)(hn:∀h2:e<S.size,¬(S[e].toNat=39/\e - i - 1<=12)):zg S i=.bad/\qI S i=0:=by
 subst he;unfold zg qI;split
 . rename_i h2
   rw [aA (hn h2),aA (hn h2)];exact ⟨rfl,rfl⟩
 . exact ⟨rfl,rfl⟩
theorem SP {S:ByteArray}{i e:Nat}(he:aM S eE (i+1)=e)(h2:e<S.size)(hn:S[e].toNat=39/\e - i - 1<=12):zg S i=.str (S.extract (i+1) e)/\qI S i=e - i - 1:=by
 subst he;unfold zg qI;rw [iX h2,iX h2,aH hn,aH hn];exact ⟨rfl,rfl⟩
theorem tF (c:UInt8):eE c=true↔32<=c.toNat/\c.toNat<=126/\c.toNat≠39:=by
 unfold eE;rw [dj,dj,cY,cY,sy,eY];exact ⟨λh=>⟨h.1.1,h.1.2,h.2⟩,λh=>⟨⟨h.1,h.2.1⟩,h.2.2⟩⟩
theorem O6 (p:Nat)(x:eT)(w:World)(h:qw w p x)(h1:x.pos<x.S.size)(h3:x.S.size<=300):Calls Tryz.prog 28 #[.pointer (some ⟨p,0,none⟩)] w λr w'=>
 ∃k t n,r=.returned (G6 k t x.pos n)/\lN k t n (zg x.S x.pos)/\t.size=qI x.S x.pos/\k<256/\bZ n/\Below w.heap.size w w':=by
 have c0:w.cell? ⟨p,0,none⟩=some (.string x.S):=h.cell 0;have c1:w.cell? ⟨p,1,none⟩=some (.int .i64 x.pos):=h.cell 1;have cF:=h.lt;clear h;go_enter Tryz.func28,Tryz.ntmps28;go_wp2_with fail;go_loopw [3] (λv wr=>∃i:Nat,x.pos+1<=i/\i<=x.S.size/\v=.int .i64 i/\(∃k,wr=(w.alloc (.cells #[.int .u8 0,.string ⟨#[]⟩,.int .i64 0,.int .i64 0] 61)).drewN k)/\Hid (aM x.S eE (x.pos+1)=aM x.S eE i)) (λv _=>x.S.size - (intOf v).toNat)
 case atStart=>exact ⟨x.pos+1,by omega,by omega,by go_num,⟨0,rfl⟩,hide rfl⟩
 case round=>
  obtain ⟨i,hi1,hi2,rfl,⟨k,rfl⟩,HS⟩:=hrel;by_cases BK:i<x.S.size
  . have g1:(i:Int)<x.S.size:=by omega
    by_cases e3:(x.S[i].toNat:Int)=39
    . have jz:aM x.S eE (x.pos+1)=i:=by
       rw [ae HS];refine iR _ _ _ BK ?_;rw [fU,ne_eq,tF];omega
      by_cases e4:(i:Int) - x.pos - 1<=12
      . obtain ⟨q,Hj⟩:∃q:Nat,q=x.pos+1:=⟨_,rfl⟩
        have hq:(x.pos:Int)+1=q:=by omega
        have g8:q<=i:=by omega
        have hsl:∀w,(Instr.slice 9 (.string x.S) (some (.int .i64 q)) (some (.int .i64 i)) none).run Tryz.prog w=.ok (.string (x.S.extract q i)) w:=λw=>sI w 9 x.S Tryz.underlying9 q i g8 hi2;have ze:(x.S.extract q i).size=i - x.pos - 1:=by rw [cH];omega
        have hg:=SP jz BK (by omega);rw [<- Hj] at hg;have HG:=hide hg;have HT:=hide ze;clear jz ze Hj hg;go_wp2_with fail;go_region;go_wp2_with fail;go_returns;exact ⟨115,_,0,rfl,by rw [(ae HG).1];exact ⟨rfl,rfl⟩,by rw [ae HT,(ae HG).2],by decide,by unfold bZ;decide,
         bB (bB (bB (bB (fS w _ _).1 (af _) _) (af _) _) (af _) _) (af _) _⟩
      . have e4':¬((i:Int) - x.pos - 1<=12):=e4
        have hg:=Ar jz (λh2=>by omega);have HG:=hide hg;clear jz hg;go_wp2_with fail;go_returns;exact ⟨33,⟨#[]⟩,0,rfl,by rw [(ae HG).1];rfl,by rw [(ae HG).2];rfl,by decide,by unfold bZ;decide,
         bB (bB (bB (bB (fS w _ _).1 (af _) _) (af _) _) (af _) _) (af _) _⟩
    . have e3':((x.S[i].toNat:Int)==39)=false:=by rw [aj];exact e3
      by_cases e1:(32:Int)<=x.S[i].toNat
      . by_cases e2:(x.S[i].toNat:Int)<=126
        . have iP:eE x.S[i]=true:=by rw [tF];omega
          have abX:aM x.S eE (x.pos+1)=aM x.S eE (i+1):=(ae HS).trans (gU _ _ _ BK iP);have HX:=hide abX;clear abX iP;go_wp2_with fail;go_roundw
          case rel=>exact ⟨i+1,by omega,by omega,by go_num,⟨_,rfl⟩,HX⟩
          case measure=>simp [intOf];omega
        . have jz:aM x.S eE (x.pos+1)=i:=by
           rw [ae HS];refine iR _ _ _ BK ?_;rw [fU,ne_eq,tF];omega
          have hg:=Ar jz (λh2=>by omega);have HG:=hide hg;clear jz hg;go_wp2_with fail;go_returns;exact ⟨33,⟨#[]⟩,0,rfl,by rw [(ae HG).1];rfl,by rw [(ae HG).2];rfl,by decide,by unfold bZ;decide,
           bB (bB (bB (bB (fS w _ _).1 (af _) _) (af _) _) (af _) _) (af _) _⟩
      . have jz:aM x.S eE (x.pos+1)=i:=by
         rw [ae HS];refine iR _ _ _ BK ?_;rw [fU,ne_eq,tF];omega
        have hg:=Ar jz (λh2=>by omega);have HG:=hide hg;clear jz hg;go_wp2_with fail;go_returns;exact ⟨33,⟨#[]⟩,0,rfl,by rw [(ae HG).1];rfl,by rw [(ae HG).2];rfl,by decide,by unfold bZ;decide,
         bB (bB (bB (bB (fS w _ _).1 (af _) _) (af _) _) (af _) _) (af _) _⟩
  . have g1:¬(i:Int)<x.S.size:=by omega
    have jz:aM x.S eE (x.pos+1)=i:=by
     rw [ae HS];exact lx _ _ _ BK
    have hg:=Ar jz (λh2=>by omega);have HG:=hide hg;clear jz hg;go_wp2_with fail;go_returns;exact ⟨33,⟨#[]⟩,0,rfl,by rw [(ae HG).1];rfl,by rw [(ae HG).2];rfl,by decide,by unfold bZ;decide,
     bB (bB (bB (bB (fS w _ _).1 (af _) _) (af _) _) (af _) _) (af _) _⟩
def Other (p:Nat)(w:World)(k:Nat):Prop:=k≠p/\k<w.heap.size
theorem qw.upd {w:World}{p:Nat}{x:eT}(h:qw w p x)(n:Nat):qw (w.setCell ⟨p,1,none⟩ (.int .i64 n)) p { x with pos:=n }:=h.set 1 _ (by simp [gX])
theorem qw.drewN {w:World}{p:Nat}{x:eT}(h:qw w p x)(n:Nat):qw (w.drewN n) p x:=h
theorem qw.tok {w:World}{p:Nat}{x:eT}(h:qw w p x)(k:Nat)(t:ByteArray)(tp:Nat)(n:Int) :
 qw ((((w.setCell ⟨p,2,none⟩ (.int .u8 k)).setCell ⟨p,3,none⟩ (.string t)).setCell ⟨p,4,none⟩ (.int .i64 tp)).setCell ⟨p,5,none⟩ (.int .i64 n)) p { x with tk:=k,tt:=t,tp:=tp,tn:=n }:=by
 have h1:qw (w.setCell ⟨p,2,none⟩ (.int .u8 k)) p { x with tk:=k }:=h.set 2 _ (by simp [gX]);have h2:qw ((w.setCell ⟨p,2,none⟩ (.int .u8 k)).setCell ⟨p,3,none⟩ (.string t)) p { x with tk:=k,tt:=t }:=h1.set 3 _ (by simp [gX]);have h3:qw (((w.setCell ⟨p,2,none⟩ (.int .u8 k)).setCell ⟨p,3,none⟩ (.string t)).setCell ⟨p,4,none⟩ (.int .i64 tp)) p { x with tk:=k,tt:=t,tp:=tp }:=h2.set 4 _ (by simp [gX]);exact h3.set 5 _ (by simp [gX])
theorem aQ.drewN {K:Nat->Prop}{a w:World}(h:aQ K a w)(n:Nat):aQ K a (w.drewN n):=⟨h.os,h.tape,h.output,h.size,h.block⟩
theorem aQ.own {p:Nat}{w0 w:World}(h:aQ (Other p w0) w0 w)(i:Nat)(v:Value):aQ (Other p w0) w0 (w.setCell ⟨p,i,none⟩ v):=h.setCell (p:=⟨p,i,none⟩) (λh=>h.1 rfl) v
theorem aQ.tok {p:Nat}{w0 w:World}(h:aQ (Other p w0) w0 w)(a b c d:Value):aQ (Other p w0) w0 ((((w.setCell ⟨p,2,none⟩ a).setCell ⟨p,3,none⟩ b).setCell ⟨p,4,none⟩ c).setCell ⟨p,5,none⟩ d):=
 (((h.own 2 a).own 3 b).own 4 c).own 5 d
theorem aQ.rr {p:Nat}{w0 w w':World}(h:aQ (Other p w0) w0 w)(hb:Below w.heap.size w w'):aQ (Other p w0) w0 w':=
 h.trans ⟨hb.os,hb.tape,hb.output,hb.size,λk hk=>hb.block k (aF hk.2 h.size)⟩
theorem Laid.keeps {p:Nat}{w0 w:World}(h:Laid w0)(hk:aQ (Other p w0) w0 w)(hp:0<p):Laid w:=by
 intro i s hs;have h1:=h i s hs;have cF:0<w0.heap.size:=aX _ _ h1;exact (hk.cell (p:=⟨0,i,none⟩) ⟨by simp;omega,cF⟩).trans h1
structure ad1 (x x':eT):Prop where
 same:x'={ x with pos:=x'.pos,tk:=x'.tk,tt:=x'.tt,tp:=x'.tp,tn:=x'.tn }
 k:x'.tk<256
 n:bZ x'.tn
 tok:∀h:aM x.S bU x.pos<x.S.size,lN x'.tk x'.tt x'.tn (eV x.S (aM x.S bU x.pos) h).1/\x'.tp=aM x.S bU x.pos/\x'.pos=(eV x.S (aM x.S bU x.pos) h).2
 fin:¬aM x.S bU x.pos<x.S.size->x'.tk=0/\x'.tp=x.S.size/\x'.pos=aM x.S bU x.pos
theorem Df {n:Nat}(h:jU n=true):lY n=false:=by
 unfold jU at h;unfold lY;rw [dj,cY,cY] at h;rw [Bool.and_eq_false_iff,eY,eY];omega
def fD (c d:UInt8):Bool:=(ct c&&ct d)||(cD c&&cD d)
theorem yx (S:ByteArray)(f g:UInt8->Bool)(hfg:∀c,f c=g c)(i:Nat):aM S f i=aM S g i:=by
 have:f=g:=funext hfg;rw [this]
theorem zh (S:ByteArray)(i:Nat)(h:i<S.size)(hc:fD S[i] S[i]=true):eV S i h=(q8 S i (aM S (fD S[i]) i) h,aM S (fD S[i]) i):=by
 unfold fD at hc;by_cases hl:ct S[i]=true
 . have e:aM S (fD S[i]) i=aM S ct i:=yx _ _ _ (λc=>by
    unfold fD;have hd:cD S[i]=false:=by
     unfold ct jU at hl;unfold cD lY;rw [dj,cY,cY] at hl;rw [Bool.and_eq_false_iff,eY,eY];omega
    rw [hl,hd];simp) i
   rw [e];unfold eV q8;rw [aH hl,aH hl];simp only;split
   . rfl
   . split<;>rfl
 . have hd:cD S[i]=true:=by simpa [hl] using hc
   have e:aM S (fD S[i]) i=aM S cD i:=yx _ _ _ (λc=>by
    unfold fD;rw [hd,fU.mpr hl];simp) i
   rw [e];unfold eV q8;rw [aA hl,aA hl,aH hd];simp only;split<;>rfl
theorem O7 (S:ByteArray)(i:Nat)(h:i<S.size)(hc:S[i].toNat=39):eV S i h=(zg S i,i+qI S i+2):=by
 have hl:¬ct S[i]=true:=by unfold ct jU;rw [hc];decide
 have hd:¬cD S[i]=true:=by unfold cD lY;rw [hc];decide
 have hge:=fg S eE (i+1);unfold eV zg qI;rw [aA hl,aA hd,aH hc];simp only;split
 . split
   . rename_i h1 h2
     refine xl rfl ?_;simp only;omega
   . rfl
 . rfl
theorem O8 (S:ByteArray)(i:Nat):qI S i<=12:=by
 unfold qI;split
 . split<;>omega
 . omega
theorem O9 (S:ByteArray)(i:Nat)(h:i<S.size)(hc:fD S[i] S[i]=false)(Gx:¬S[i].toNat=39):eV S i h=(rm S i h,i+ej S i h):=by
 unfold fD at hc;rw [Bool.or_eq_false_iff,Bool.and_self,Bool.and_self] at hc;unfold eV rm;rw [aA (by rw [hc.1];decide),aA (by rw [hc.2];decide),aA Gx];simp only;split
 . rename_i h0;rw [h0];rfl
 . rfl
theorem DS (S:ByteArray)(f:UInt8->Bool)(i j:Nat)(h1:i<=j)(h2:j<aM S f i):∃h:j<S.size,f S[j]=true:=by
 rw [aM] at h2;split at h2
 . rename_i hi
   split at h2
   . rename_i hf
     by_cases VK:j=i
     . subst VK;exact ⟨hi,hf⟩
     . exact DS S f (i+1) j (by omega) h2
   . omega
 . omega
 termination_by S.size - i
theorem Au (S:ByteArray)(i e:Nat)(hi:i<S.size)(he:e<=S.size)(jz:aM S (fD S[i]) i=e)(hl:ct S[i]=false) :
 ∀k (hk:k<(S.extract i e).size),cD (S.extract i e)[k]=true:=by
 intro k hk;have hs:k<e - i:=by rw [cH] at hk;omega
 obtain ⟨hj,hf⟩:=DS S (fD S[i]) i (i+k) (by omega) (by omega);have e1:(S.extract i e)[k]=S[i+k]:=ByteArray.getElem_extract ..;rw [e1];unfold fD at hf;rw [hl] at hf;simp at hf;exact hf.2
theorem Pa {S:ByteArray}{i e:Nat}(hi:i<S.size)(h:aM S (fD S[i]) i=e)(hie:i<e):fD S[i] S[i]=true:=by
 obtain ⟨_,hf⟩:=DS S (fD S[i]) i i (af _) (by omega);exact hf
theorem Mi (p:Nat)(x:eT)(w:World)(h:qw w p x)(hl:Laid w)(NU:0<p)(h3:x.S.size<=300)(h4:x.pos<=x.S.size+1):Calls Tryz.prog 17 #[.pointer (some ⟨p,0,none⟩)] w λr w'=>
 r=.returned (.tuple #[])/\∃x',qw w' p x'/\ad1 x x'/\aQ (Other p w) w w':=by
 have HP:=hide h;have HL:=hide hl;clear h hl;go_enter Tryz.func17,Tryz.ntmps17;go_wp2_with fail;go_loopw [] (λwr=>∃i:Nat,i<=x.S.size+1/\Hid (qw wr p { x with pos:=i })/\Hid (aQ (Other p w) w wr)/\Hid (aM x.S bU x.pos=aM x.S bU i)) (λwr=>x.S.size+1 - (intOf ((wr.cell? ⟨p,1,none⟩).getD undef)).toNat)
 case atStart=>exact ⟨x.pos,h4,HP,hide (aQ.refl _ _),hide rfl⟩
 case round=>
  obtain ⟨i,hi,Rg,HK,HS⟩:=hrel;have c0:wr.cell? ⟨p,0,none⟩=some (.string x.S):=(ae Rg).cell 0;have c1:wr.cell? ⟨p,1,none⟩=some (.int .i64 i):=(ae Rg).cell 1;have f1:=(ae Rg).fz 1;by_cases cF:i<x.S.size
  . have g1:(i:Int)<x.S.size:=by omega
    by_cases hb:(x.S[i].toNat:Int)=32
    . have fN:bU x.S[i]=true:=by unfold bU;rw [cY];omega
      have HX:=hide ((ae HS).trans (gU _ _ _ cF fN));clear fN;go_wp2_with fail;go_quiet (fail);go_wp2_with fail;go_roundw
      case rel=>
       refine ⟨i+1,by omega,hide ?_,hide (((ae HK).drewN _).own 1 _),HX⟩;have:=((ae Rg).drewN nq).upd (i+1)
       rwa [show (((i+1:Nat):Int))=(i:Int)+1 from by omega] at this
      case measure=>
       have e:=kS (wr.drewN nq) ⟨p,1,none⟩ (.int .i64 ((i:Int)+1)) (u:=.int .i64 i) c1;rw [e,c1];simp [intOf];omega
    . have Cm:((x.S[i].toNat:Int)==32)=false:=by rw [aj];exact hb
      have fN:bU x.S[i]=false:=by unfold bU;rw [eY];omega
      have HX:=hide ((ae HS).trans (iR _ _ _ cF fN));clear fN;go_wp2_with fail;go_quiet (fail);go_wp2_with fail;go_quiet (fail);go_wp2_with fail;go_quiet (fail);go_wp2_with fail;clear c0 c1 f1;rw [show decide (x.S.size<=i)=false from by rw [eY];omega];go_loopw [3] (λv ws=>∃e:Nat,i<=e/\e<=x.S.size/\v=.int .i64 e/\Hid (qw ws p { x with pos:=i })/\Hid (aQ (Other p w) w ws)/\Hid (aM x.S (fD x.S[i]) i=aM x.S (fD x.S[i]) e)) (λv _=>x.S.size - (intOf v).toNat)
      case atStart=>exact ⟨i,af _,by omega,rfl,hide ((ae Rg).drewN _),hide ((ae HK).drewN _),hide rfl⟩
      case round=>
       obtain ⟨e,YM,V2,rfl,IW,YN,HE⟩:=hrel;have c0:wr.cell? ⟨p,0,none⟩=some (.string x.S):=(ae IW).cell 0;have c1:wr.cell? ⟨p,1,none⟩=some (.int .i64 i):=(ae IW).cell 1;have f1:=(ae IW).fz 1;by_cases BK:e<x.S.size
       . have g2:(e:Int)<x.S.size:=by omega
         cases hL:jU x.S[i].toNat
         . cases hD:lY x.S[i].toNat
           . have vQ:fD x.S[i] x.S[i]=false:=by unfold fD ct cD;simp [hL,hD]
             obtain rfl:e=i:=by
              have h1:=iR x.S (fD x.S[i]) i cF vQ;by_cases hei:i<e
              . have h2:=fg x.S (fD x.S[i]) e
                have h3:=ae HE;omega
              . omega
             by_cases Gx:(x.S[e].toNat:Int)=39
             . have wM:=O7 x.S e cF (by omega)
               have Z4:=hide wM;clear wM;go_wp2_with (first|(go_at_call 25;refine (mH _ _).mono ?_;rintro e' w' ⟨rfl,rfl⟩)|(go_at_call 26;refine (pD _ _).mono ?_;rintro e' w' ⟨rfl,rfl⟩));refine (O6 p { x with pos:=e } wr (ae IW) cF h3).mono ?_;rintro r w2 ⟨k,t,n,rfl,Av,kd,hk,hn,hB⟩;have nZ:qw w2 p { x with pos:=e }:=(ae IW).eo (hB.block p (ae IW).lt);have Z5:=hide ((ae YN).rr hB);have d1:w2.cell? ⟨p,1,none⟩=some (.int .i64 e):=nZ.cell 1;have d2:w2.cell? ⟨p,2,none⟩=some (.int .u8 x.tk):=nZ.cell 2;have d3:w2.cell? ⟨p,3,none⟩=some (.string x.tt):=nZ.cell 3;have d4:w2.cell? ⟨p,4,none⟩=some (.int .i64 x.tp):=nZ.cell 4;have d5:w2.cell? ⟨p,5,none⟩=some (.int .i64 x.tn):=nZ.cell 5;have m1:=nZ.fz 1;have m2:=nZ.fz 2;have m3:=nZ.fz 3;have m4:=nZ.fz 4;have m5:=nZ.fz 5;have Z6:=hide nZ;have HB:=hide hB;have HT:=hide Av;have HZ:=hide kd;have htz:t.size<=300:=by rw [kd];exact aw (O8 x.S e) (by omega)
               clear nZ hB Av c0 c1 f1 kd;unfold G6;go_wp2_with fail;go_quiet (fail);go_wp2_with fail;go_end0;have jZ:=(((ae Z6).tok k t e n).drewN nq).upd (e+t.size+2);rw [show ((e+t.size+2:Nat):Int)=(e:Int)+t.size+2 from by omega] at jZ;refine ⟨rfl,_,jZ,⟨rfl,hk,hn,λh=>?_,λh=>?_⟩,(((ae Z5).tok _ _ _ _).drewN _).own 1 _⟩
               . have hx:=ae HX
                 simp only [hx];rw [ae Z4,ae HZ];refine ⟨ae HT,?_,?_⟩<;>first|rfl|trivial
               . exact absurd (by rw [ae HX];exact cF) h
             . have atj:((x.S[e].toNat:Int)==39)=false:=by rw [aj];exact Gx
               have wM:=O9 x.S e cF vQ (by omega);have Z4:=hide wM;clear wM;go_wp2_with (first|(go_at_call 25;refine (mH _ _).mono ?_;rintro e' w' ⟨rfl,rfl⟩)|(go_at_call 26;refine (pD _ _).mono ?_;rintro e' w' ⟨rfl,rfl⟩));refine (Wk p { x with pos:=e } wr (ae IW) cF h3).mono ?_;rintro r w2 ⟨k,t,n,rfl,Av,kd,hk,hn,hB⟩;have nZ:qw w2 p { x with pos:=e }:=(ae IW).eo (hB.block p (ae IW).lt);have Z5:=hide ((ae YN).rr hB);have d1:w2.cell? ⟨p,1,none⟩=some (.int .i64 e):=nZ.cell 1;have d2:w2.cell? ⟨p,2,none⟩=some (.int .u8 x.tk):=nZ.cell 2;have d3:w2.cell? ⟨p,3,none⟩=some (.string x.tt):=nZ.cell 3;have d4:w2.cell? ⟨p,4,none⟩=some (.int .i64 x.tp):=nZ.cell 4;have d5:w2.cell? ⟨p,5,none⟩=some (.int .i64 x.tn):=nZ.cell 5;have m1:=nZ.fz 1;have m2:=nZ.fz 2;have m3:=nZ.fz 3;have m4:=nZ.fz 4;have m5:=nZ.fz 5;have Z6:=hide nZ;have HB:=hide hB;have HT:=hide Av;have HZ:=hide kd;have htz:t.size<=300:=by rw [kd];exact aw (yK x.S e cF).1 (by omega)
               clear nZ hB Av c0 c1 f1 kd;unfold G6;go_wp2_with fail;go_quiet (fail);go_wp2_with fail;go_end0;have jZ:=(((ae Z6).tok k t e n).drewN nq).upd (e+t.size);rw [show ((e+t.size:Nat):Int)=(e:Int)+t.size from by omega] at jZ;refine ⟨rfl,_,jZ,⟨rfl,hk,hn,λh=>?_,λh=>?_⟩,(((ae Z5).tok _ _ _ _).drewN _).own 1 _⟩
               . have hx:=ae HX
                 simp only [hx];rw [ae Z4,ae HZ];refine ⟨ae HT,?_,?_⟩<;>first|rfl|trivial
               . exact absurd (by rw [ae HX];exact cF) h
           . cases HH:lY x.S[e].toNat
             . have hei:i<e:=Nat.lt_of_le_of_ne YM (λh=>by subst h;rw [hD] at HH;cases HH)
               have ahS:(i:Int)<e:=by omega
               have vQ:fD x.S[i] x.S[i]=true:=by unfold fD cD;simp [hD]
               have jz:aM x.S (fD x.S[i]) i=e:=(ae HE).trans (iR _ _ _ BK (by unfold fD ct cD;simp [hL,HH]));have wM:=zh x.S i cF vQ;rw [jz] at wM;have Z4:=hide wM;have HEN:=hide jz;clear wM vQ jz;go_wp2_with (first|(go_at_call 25;refine (mH _ _).mono ?_;rintro e' w' ⟨rfl,rfl⟩)|(go_at_call 26;refine (pD _ _).mono ?_;rintro e' w' ⟨rfl,rfl⟩));refine (EM p { x with pos:=i } e wr (ae IW) ((ae HL).keeps (ae YN) NU) hei V2 (Au x.S i e cF V2 (ae HEN))).mono ?_;rintro r w2 ⟨k,t,n,rfl,Av,hk,hn,hB⟩;have nZ:qw w2 p { x with pos:=i }:=(ae IW).eo (hB.block p (ae IW).lt);have Z5:=hide ((ae YN).rr hB);have d1:w2.cell? ⟨p,1,none⟩=some (.int .i64 i):=nZ.cell 1;have d2:w2.cell? ⟨p,2,none⟩=some (.int .u8 x.tk):=nZ.cell 2;have d3:w2.cell? ⟨p,3,none⟩=some (.string x.tt):=nZ.cell 3;have d4:w2.cell? ⟨p,4,none⟩=some (.int .i64 x.tp):=nZ.cell 4;have d5:w2.cell? ⟨p,5,none⟩=some (.int .i64 x.tn):=nZ.cell 5;have m1:=nZ.fz 1;have m2:=nZ.fz 2;have m3:=nZ.fz 3;have m4:=nZ.fz 4;have m5:=nZ.fz 5;have Z6:=hide nZ;have HB:=hide hB;have HT:=hide Av;clear nZ hB Av c0 c1 f1;unfold G6;go_wp2_with fail;go_end0;refine ⟨rfl,_,((ae Z6).tok k t i n).upd e,⟨rfl,hk,hn,λh=>?_,λh=>?_⟩,((ae Z5).tok _ _ _ _).own 1 _⟩
               . have hx:=ae HX
                 simp only [hx];rw [ae Z4];refine ⟨ae HT,?_,?_⟩<;>first|rfl|trivial
               . exact absurd (by rw [ae HX];exact cF) h
             . have HX2:=hide ((ae HE).trans (gU _ _ _ BK (by unfold fD ct cD;simp [hL,hD,HH])))
               go_wp2_with (first|(go_at_call 25;refine (mH _ _).mono ?_;rintro e' w' ⟨rfl,rfl⟩)|(go_at_call 26;refine (pD _ _).mono ?_;rintro e' w' ⟨rfl,rfl⟩));go_roundw
               case rel=>exact ⟨e+1,by omega,by omega,by go_num,IW,YN,HX2⟩
               case measure=>simp [intOf];omega
         . have hD:lY x.S[i].toNat=false:=Df hL
           cases HH:jU x.S[e].toNat
           . have hei:i<e:=Nat.lt_of_le_of_ne YM (λh=>by subst h;rw [hL] at HH;cases HH)
             have ahS:(i:Int)<e:=by omega
             have vQ:fD x.S[i] x.S[i]=true:=by unfold fD ct;simp [hL]
             have jz:aM x.S (fD x.S[i]) i=e:=(ae HE).trans (iR _ _ _ BK (by unfold fD ct cD;simp [hD,HH]));have wM:=zh x.S i cF vQ;rw [jz] at wM;have Z4:=hide wM;have HEN:=hide jz;clear wM vQ jz;go_wp2_with (first|(go_at_call 25;refine (mH _ _).mono ?_;rintro e' w' ⟨rfl,rfl⟩)|(go_at_call 26;refine (pD _ _).mono ?_;rintro e' w' ⟨rfl,rfl⟩));refine (EM p { x with pos:=i } e wr (ae IW) ((ae HL).keeps (ae YN) NU) hei V2 (λh0=>absurd h0 (by show ¬jU _=false;rw [hL];decide))).mono ?_;rintro r w2 ⟨k,t,n,rfl,Av,hk,hn,hB⟩;have nZ:qw w2 p { x with pos:=i }:=(ae IW).eo (hB.block p (ae IW).lt);have Z5:=hide ((ae YN).rr hB);have d1:w2.cell? ⟨p,1,none⟩=some (.int .i64 i):=nZ.cell 1;have d2:w2.cell? ⟨p,2,none⟩=some (.int .u8 x.tk):=nZ.cell 2;have d3:w2.cell? ⟨p,3,none⟩=some (.string x.tt):=nZ.cell 3;have d4:w2.cell? ⟨p,4,none⟩=some (.int .i64 x.tp):=nZ.cell 4;have d5:w2.cell? ⟨p,5,none⟩=some (.int .i64 x.tn):=nZ.cell 5;have m1:=nZ.fz 1;have m2:=nZ.fz 2;have m3:=nZ.fz 3;have m4:=nZ.fz 4;have m5:=nZ.fz 5;have Z6:=hide nZ;have HB:=hide hB;have HT:=hide Av;clear nZ hB Av c0 c1 f1;unfold G6;go_wp2_with fail;go_end0;refine ⟨rfl,_,((ae Z6).tok k t i n).upd e,⟨rfl,hk,hn,λh=>?_,λh=>?_⟩,((ae Z5).tok _ _ _ _).own 1 _⟩
             . have hx:=ae HX
               simp only [hx];rw [ae Z4];refine ⟨ae HT,?_,?_⟩<;>first|rfl|trivial
             . exact absurd (by rw [ae HX];exact cF) h
           . have HX2:=hide ((ae HE).trans (gU _ _ _ BK (by unfold fD ct cD;simp [hL,hD,HH])))
             go_wp2_with (first|(go_at_call 25;refine (mH _ _).mono ?_;rintro e' w' ⟨rfl,rfl⟩)|(go_at_call 26;refine (pD _ _).mono ?_;rintro e' w' ⟨rfl,rfl⟩));go_roundw
             case rel=>exact ⟨e+1,by omega,by omega,by go_num,IW,YN,HX2⟩
             case measure=>simp [intOf];omega
       . have g2:¬(e:Int)<x.S.size:=by omega
         have hei:i<e:=by omega
         have ahS:(i:Int)<e:=by omega
         have vQ:fD x.S[i] x.S[i]=true:=Pa cF ((ae HE).trans (lx _ _ _ BK)) hei;have jz:aM x.S (fD x.S[i]) i=e:=(ae HE).trans (lx _ _ _ BK);have wM:=zh x.S i cF vQ;rw [jz] at wM;have Z4:=hide wM;have HEN:=hide jz;clear wM vQ jz;go_wp2_with (first|(go_at_call 25;refine (mH _ _).mono ?_;rintro e' w' ⟨rfl,rfl⟩)|(go_at_call 26;refine (pD _ _).mono ?_;rintro e' w' ⟨rfl,rfl⟩));refine (EM p { x with pos:=i } e wr (ae IW) ((ae HL).keeps (ae YN) NU) hei V2 (Au x.S i e cF V2 (ae HEN))).mono ?_;rintro r w2 ⟨k,t,n,rfl,Av,hk,hn,hB⟩;have nZ:qw w2 p { x with pos:=i }:=(ae IW).eo (hB.block p (ae IW).lt);have Z5:=hide ((ae YN).rr hB);have d1:w2.cell? ⟨p,1,none⟩=some (.int .i64 i):=nZ.cell 1;have d2:w2.cell? ⟨p,2,none⟩=some (.int .u8 x.tk):=nZ.cell 2;have d3:w2.cell? ⟨p,3,none⟩=some (.string x.tt):=nZ.cell 3;have d4:w2.cell? ⟨p,4,none⟩=some (.int .i64 x.tp):=nZ.cell 4;have d5:w2.cell? ⟨p,5,none⟩=some (.int .i64 x.tn):=nZ.cell 5;have m1:=nZ.fz 1;have m2:=nZ.fz 2;have m3:=nZ.fz 3;have m4:=nZ.fz 4;have m5:=nZ.fz 5;have Z6:=hide nZ;have HB:=hide hB;have HT:=hide Av;clear nZ hB Av c0 c1 f1;unfold G6;go_wp2_with fail;go_end0;refine ⟨rfl,_,((ae Z6).tok k t i n).upd e,⟨rfl,hk,hn,λh=>?_,λh=>?_⟩,((ae Z5).tok _ _ _ _).own 1 _⟩
         . have hx:=ae HX
           simp only [hx];rw [ae Z4];refine ⟨ae HT,?_,?_⟩<;>first|rfl|trivial
         . exact absurd (by rw [ae HX];exact cF) h
  . have g1:¬(i:Int)<x.S.size:=by omega
    have HX:=hide ((ae HS).trans (lx _ _ _ cF));have c2:wr.cell? ⟨p,2,none⟩=some (.int .u8 x.tk):=(ae Rg).cell 2;have c3:wr.cell? ⟨p,3,none⟩=some (.string x.tt):=(ae Rg).cell 3;have c4:wr.cell? ⟨p,4,none⟩=some (.int .i64 x.tp):=(ae Rg).cell 4;have c5:wr.cell? ⟨p,5,none⟩=some (.int .i64 x.tn):=(ae Rg).cell 5;have f2:=(ae Rg).fz 2;have f3:=(ae Rg).fz 3;have f4:=(ae Rg).fz 4;have f5:=(ae Rg).fz 5;go_wp2_with fail;go_quiet (fail);go_wp2_with fail;go_quiet (fail);go_wp2_with fail;go_returns;refine ⟨rfl,_,((ae Rg).drewN _).tok 0 ⟨#[]⟩ x.S.size 0,⟨rfl,Nat.zero_lt_succ _,⟨by show (-9223372036854775808:Int)<=0;decide,by show (0:Int)<=9223372036854775807;decide⟩,λh=>?_,λ_=>⟨rfl,rfl,?_⟩⟩,((ae HK).drewN _).tok _ _ _ _⟩
    . rw [ae HX] at h;omega
    . exact (ae HX).symm
theorem mU (c:Nat)(w:World):Calls Tryz.prog 69 #[.int .u8 c] w λe w'=>e=.returned (.bool (jU c))/\w=w':=by
 unfold jU;by_cases h1:(97:Int)<=c
 . by_cases h2:(c:Int)<=122
   . go_enter Tryz.func69,Tryz.ntmps69
     go_wp2;go_ret;have sT:97<=c:=by omega
     have Bv:c<=122:=by omega
     simp [sT,Bv]
   . go_enter Tryz.func69,Tryz.ntmps69
     go_wp2;go_ret;have sT:97<=c:=by omega
     have Bv:¬c<=122:=by omega
     simp [sT,Bv]
 . go_enter Tryz.func69,Tryz.ntmps69
   go_wp2;go_ret;have sT:¬97<=c:=by omega
   simp [sT]
theorem ot (c:Nat)(w:World):Calls Tryz.prog 71 #[.int .u8 c] w λe w'=>e=.returned (.bool (lY c))/\w=w':=by
 unfold lY;by_cases h1:(48:Int)<=c
 . by_cases h2:(c:Int)<=57
   . go_enter Tryz.func71,Tryz.ntmps71
     go_wp2;go_ret;have sT:48<=c:=by omega
     have Bv:c<=57:=by omega
     simp [sT,Bv]
   . go_enter Tryz.func71,Tryz.ntmps71
     go_wp2;go_ret;have sT:48<=c:=by omega
     have Bv:¬c<=57:=by omega
     simp [sT,Bv]
 . go_enter Tryz.func71,Tryz.ntmps71
   go_wp2;go_ret;have sT:¬48<=c:=by omega
   simp [sT]
theorem Dg (T:ByteArray)(w:World)(hT:T.size<=300):Calls Tryz.prog 98 #[.string T,.func (.func 69) #[] #[]] w λe w'=>e=.returned (.int .i64 (aM T ct 0))/\w=w':=by
 go_enter Tryz.func98,Tryz.ntmps98;go_wp2_with fail;go_loopw [8] (λc wr=>∃i:Nat,i<=T.size/\c=.int .i64 i/\wr=w/\Hid (aM T ct 0=aM T ct i)) (λc _=>T.size - (intOf c).toNat)
 case atStart=>exact ⟨0,aN _,rfl,rfl,hide rfl⟩
 case round=>
  obtain ⟨i,hi,rfl,rfl,HS⟩:=hrel;by_cases cF:i<T.size
  . have jI:(i:Int)<(T.size:Int):=by omega
    cases hb:jU T[i].toNat
    . go_wp2_with (go_at_call 69;refine (mU _ _).mono ?_;rintro r' w' ⟨rfl,rfl⟩)
      go_ret;refine ⟨?_,rfl⟩;rw [ae HS,iR T ct i cF hb];rfl
    . go_wp2_with (go_at_call 69;refine (mU _ _).mono ?_;rintro r' w' ⟨rfl,rfl⟩)
      go_roundw
      case rel=>exact ⟨i+1,by omega,by go_num,by first|rfl|trivial,hide ((ae HS).trans (gU T ct i cF hb))⟩
      case measure=>simp [intOf];omega
  . go_wp2_with fail
    go_ret;refine ⟨?_,rfl⟩;rw [ae HS,lx T ct i cF];have:T.size=i:=by omega
    rw [this];rfl
theorem Fe (T:ByteArray)(w:World)(hT:T.size<=300):Calls Tryz.prog 98 #[.string T,.func (.func 71) #[] #[]] w λe w'=>e=.returned (.int .i64 (aM T cD 0))/\w=w':=by
 go_enter Tryz.func98,Tryz.ntmps98;go_wp2_with fail;go_loopw [8] (λc wr=>∃i:Nat,i<=T.size/\c=.int .i64 i/\wr=w/\Hid (aM T cD 0=aM T cD i)) (λc _=>T.size - (intOf c).toNat)
 case atStart=>exact ⟨0,aN _,rfl,rfl,hide rfl⟩
 case round=>
  obtain ⟨i,hi,rfl,rfl,HS⟩:=hrel;by_cases cF:i<T.size
  . have jI:(i:Int)<(T.size:Int):=by omega
    cases hb:lY T[i].toNat
    . go_wp2_with (go_at_call 71;refine (ot _ _).mono ?_;rintro r' w' ⟨rfl,rfl⟩)
      go_ret;refine ⟨?_,rfl⟩;rw [ae HS,iR T cD i cF hb];rfl
    . go_wp2_with (go_at_call 71;refine (ot _ _).mono ?_;rintro r' w' ⟨rfl,rfl⟩)
      go_roundw
      case rel=>exact ⟨i+1,by omega,by go_num,by first|rfl|trivial,hide ((ae HS).trans (gU T cD i cF hb))⟩
      case measure=>simp [intOf];omega
  . go_wp2_with fail
    go_ret;refine ⟨?_,rfl⟩;rw [ae HS,lx T cD i cF];have:T.size=i:=by omega
    rw [this];rfl
structure jA where
 op:ByteArray
 pl:Nat
 first:Nat
 a:Nat
 b:Nat
 n:Int
 s:ByteArray
def rX (x:jA):List Value:=[.string x.op,.int .i64 x.pl,.int .i64 x.first,.int .i64 x.a,.int .i64 x.b,.int .i64 x.n,.string x.s]
def nH (l:List jA):List Value:=l.flatMap rX
theorem Pn (l:List jA):(nH l).length=l.length*7:=by
 induction l with
 |nil=>rfl
 |cons x l ih=>simp [nH,rX] at ih ⊢;omega
theorem Ms (l:List jA)(x:jA):nH (l++[x])=nH l++rX x:=by simp [nH]
theorem zk (l:List jA)(k j:Nat)(hj:j<7):(nH l)[k*7+j]?=(l[k]?).bind λx=>(rX x)[j]?:=by
 induction l generalizing k with
 |nil=>simp [nH]
 |cons x l ih=>
   have e:nH (x::l)=rX x++nH l:=by simp [nH]
   rw [e]
   cases k with
   |zero=>rw [bQ (by simp [rX];omega)];simp
   |succ k=>
     rw [bm (by simp [rX];omega)];have:(k+1)*7+j - (rX x).length=k*7+j:=by simp [rX];omega
     rw [this,ih];simp
structure Rest (x x':eT):Prop where
 S:x'.S=x.S
 deep:x'.deep=x.deep
 word:x'.word=x.word
 GZ:x'.GZ=x.GZ
 G3:x'.G3=x.G3
 G4:x'.G4=x.G4
 G5:x'.G5=x.G5
 names:x'.names=x.names
 kinds:x'.kinds=x.kinds
 rows:x'.rows=x.rows
 cond:x'.cond=x.cond
 dU:x'.dU=x.dU
theorem Rest.refl (x:eT):Rest x x:=⟨rfl,rfl,rfl,rfl,rfl,rfl,rfl,rfl,rfl,rfl,rfl,rfl⟩
theorem Rest.trans {x y z:eT}(h:Rest x y)(k:Rest y z):Rest x z:=
 ⟨k.S.trans h.S,k.deep.trans h.deep,k.word.trans h.word,k.GZ.trans h.GZ,k.G3.trans h.G3,k.G4.trans h.G4,k.G5.trans h.G5,k.names.trans h.names,k.kinds.trans h.kinds,k.rows.trans h.rows,k.cond.trans h.cond,k.dU.trans h.dU⟩
def zl (x:eT):Mode->Prop
 |.live t ts=>x.e=0/\lN x.tk x.tt x.tn t.k/\x.tp=t.pl/\(t.k.ends=false->ts=dB x.S x.pos)/\(t.k.ends=true->ts=[])
 |.dead e b=>x.e=e/\x.bad=b/\e≠0
structure fX (K:Nat->Prop)(w:World)(p:Nat)(x:eT)(m:Mode)(ns:List jA):Prop where
 pen:qw w p x
 laid:Laid w
 p0:0<p
 zm:x.S.size<=300
 pos:x.pos<=x.S.size+1
 tk:x.tk<256
 tn:bZ x.tn
 tp:x.tp<=x.S.size
 mode:zl x m
 own:w.ownsRow 0 217 7 x.nodes ns.length (nH ns)
 apart:x.nodes.ownBlock≠some p
 k0:K 0
 kp:¬K p
 kv:∀g,x.nodes.ownBlock=some g->¬K g
 old:∀k,K k->k<w.heap.size
theorem fX.other {K:Nat->Prop}{w:World}{p:Nat}{x:eT}{m:Mode}{ns:List jA}(h:fX K w p x m ns):∀k,K k->Other p w k:=
 λk hk=>⟨λe=>h.kp (e ▸ hk),h.old k hk⟩
theorem Fm (S:ByteArray)(i:Nat)(h:i<S.size)(he:(eV S i h).1.ends=true):(eV S i h).1=.bad:=by
 revert he;unfold eV;simp only
 repeat' split
 all_goals intro he
 all_goals first|rfl|(simp [Tk.ends] at he)
theorem Mt (S:ByteArray)(i:Nat)(h:i<S.size):(eV S i h).2<=S.size+1:=by
 by_cases he:(eV S i h).1.ends=true
 . have h1:=fj S ct i (by omega)
   have h2:=fj S cD i (by omega);have h3:=fj S eE (i+1) (by omega);revert he;unfold eV;simp only
   repeat' split
   all_goals intro he
   all_goals first|(simp [Tk.ends] at he;done)|(simp only;omega)
 . have:=(qZ S i h (by simpa using he)).2
   omega
theorem DT {K:Nat->Prop}{w:World}{p:Nat}{x:eT}{m:Mode}{ns:List jA}(h:fX K w p x m ns)(hm:∀t ts,m=.live t ts->t.k.ends=false) :
 Calls Tryz.prog 17 #[.pointer (some ⟨p,0,none⟩)] w λr w'=>
 r=.returned (.tuple #[])/\∃x',fX K w' p x' m.next ns/\Rest x x'/\x'.nodes=x.nodes/\aQ K w w':=by
 refine (Mi p x w h.pen h.laid h.p0 h.zm h.pos).mono ?_;rintro r w' ⟨rfl,x',hP,hN,hK⟩;refine ⟨rfl,x',?_,?_,?_,hK.mono h.other⟩
 . have hS:x'.S=x.S:=by rw [hN.same]
   have he:x'.e=x.e:=by rw [hN.same]
   have Zy:x'.bad=x.bad:=by rw [hN.same]
   have YP:x'.nodes=x.nodes:=by rw [hN.same]
   have DI:=fg x.S bU x.pos;have EV:x'.pos<=x.S.size+1/\x'.tp<=x.S.size:=by
    by_cases hj:aM x.S bU x.pos<x.S.size
    . obtain ⟨h1,h2,h3⟩:=hN.tok hj
      rw [h2,h3];refine ⟨Mt x.S _ hj,by omega⟩
    . obtain ⟨h1,h2,h3⟩:=hN.fin hj
      rw [h2,h3];refine ⟨?_,af _⟩;by_cases hps:x.pos<=x.S.size
      . have:=fj x.S bU x.pos hps;omega
      . rw [lx _ _ _ (by omega)];exact h.pos
   refine ⟨hP,h.laid.keeps hK h.p0,h.p0,by rw [hS];exact h.zm,by rw [hS];exact EV.1,hN.k,hN.n,by rw [hS];exact EV.2,?_,?_,by rw [YP];exact h.apart,h.k0,h.kp,by rw [YP];exact h.kv,λk hk=>aF (h.old k hk) hK.size⟩
   . have ab1:=h.mode
     cases m with
     |dead e b=>
       obtain ⟨h1,h2,h3⟩:=ab1;exact ⟨by rw [he];exact h1,by rw [Zy];exact h2,h3⟩
     |live t ts=>
       obtain ⟨h1,h2,h3,h4,h5⟩:=ab1;have ze:=h4 (hm t ts rfl);by_cases hj:aM x.S bU x.pos<x.S.size
       . obtain ⟨k1,k2,k3⟩:=hN.tok hj
         by_cases jz:(eV x.S (aM x.S bU x.pos) hj).1.ends=true
         . have nS:dB x.S x.pos=[⟨.bad,aM x.S bU x.pos⟩]:=by
            rw [dB];simp only [dif_pos hj,dif_pos jz]
           rw [nS] at ze;subst ze;have hb:(eV x.S (aM x.S bU x.pos) hj).1=.bad:=Fm x.S _ hj jz;rw [hb] at k1;exact ⟨by rw [he];exact h1,k1,k2,λh=>by simp [Tk.ends] at h,λ_=>rfl⟩
         . have nS:dB x.S x.pos=⟨(eV x.S (aM x.S bU x.pos) hj).1,aM x.S bU x.pos⟩::dB x.S (eV x.S (aM x.S bU x.pos) hj).2:=by
            rw [dB];simp only [dif_pos hj,dif_neg jz]
           rw [nS] at ze;subst ze;exact ⟨by rw [he];exact h1,k1,k2,λ_=>by rw [hS,k3],λh=>absurd h jz⟩
       . obtain ⟨k1,k2,k3⟩:=hN.fin hj
         have nS:dB x.S x.pos=[⟨.stop,x.S.size⟩]:=by
          rw [dB];simp only [dif_neg hj]
         rw [nS] at ze;subst ze;exact ⟨by rw [he];exact h1,k1,k2,λh=>by simp [Tk.ends] at h,λ_=>rfl⟩
   . rw [YP]
     refine h.own.kept (w':=w') (row:=some p) ⟨hK.os,hK.tape,hK.output,hK.size,λk hk iq=>hK.block k ⟨λe=>iq (by rw [e]),hk⟩⟩ (.inr h.apart)
 . rw [hN.same];exact ⟨rfl,rfl,rfl,rfl,rfl,rfl,rfl,rfl,rfl,rfl,rfl,rfl⟩
 . rw [hN.same]
theorem DU (w:World)(o1 o2:Obj):Below w.heap.size w ((w.alloc o1).alloc o2).drew/\((w.alloc o1).alloc o2).drew.heap[w.heap.size]?=some o1/\((w.alloc o1).alloc o2).drew.heap[w.heap.size+1]?=some o2/\((w.alloc o1).alloc o2).drew.heap.size=w.heap.size+2:=
 ⟨aJ (((ag _ _).alloc (af _) o1).alloc (by simp) o2),heap_alloc2_old w o1 o2,heap_alloc2_new w o1 o2,by
  show ((w.heap.push o1).push o2).size=_;simp⟩
section
variable {K:Nat->Prop} {w:World} {p:Nat} {x:eT} {m:Mode} {ns:List jA}
theorem aeb (h:zl x m)(t:ByteArray):UN x t=m.is t:=by
 cases m with
 |dead e b=>
   obtain ⟨h1,_,h3⟩:=h;have:¬x.e=0:=by rw [h1];exact h3
   unfold UN Mode.is Mode.tk;simp [this]
 |live tk ts=>
   obtain ⟨h1,h2,_⟩:=h;obtain ⟨k,pl⟩:=tk;unfold UN
   cases k<;>simp only [lN] at h2
   case stop=>simp [h2,Mode.is,Mode.tk]
   case bad=>simp [h2,Mode.is,Mode.tk]
   case word s=>simp [h1,h2.1,h2.2.1,Mode.is,Mode.tk]
   case name s=>simp [h2.1,Mode.is,Mode.tk]
   case num n=>simp [h2.1,Mode.is,Mode.tk]
   case str s=>simp [h2.1,Mode.is,Mode.tk]
   case sign s=>simp [h1,h2.1,h2.2,Mode.is,Mode.tk]
theorem ab2 (h:fX K w p x m ns)(t:ByteArray):Calls Tryz.prog 30 #[.pointer (some ⟨p,0,none⟩),.string t] w λr w'=>
 r=.returned (.bool (m.is t))/\w=w':=by
 rw [<- aeb h.mode t];exact ade p x t w h.pen
theorem fX.wrote {w':World}{x':eT}{m':Mode}(h:fX K w p x m ns)(hP:qw w' p x')(hK:aQ (Other p w) w w')(hR:Rest x x')(hn:x'.nodes=x.nodes)
 (EV:x'.pos<=x.S.size+1) (nS:x'.tk<256) (htn:bZ x'.tn) (htp:x'.tp<=x.S.size) (hm:zl x' m'):fX K w' p x' m' ns:=
 ⟨hP,h.laid.keeps hK h.p0,h.p0,by rw [hR.S];exact h.zm,by rw [hR.S];exact EV,nS,htn,by rw [hR.S];exact htp,hm,
  by rw [hn];exact h.own.kept (w':=w') (row:=some p) ⟨hK.os,hK.tape,hK.output,hK.size,λk hk iq=>hK.block k ⟨λe=>iq (by rw [e]),hk⟩⟩ (.inr h.apart),
  by rw [hn];exact h.apart,h.k0,h.kp,by rw [hn];exact h.kv,λk hk=>aF (h.old k hk) hK.size⟩
theorem Ax (h:fX K w p x m ns)(e b:Nat)(he:e≠0):Calls Tryz.prog 19 #[.pointer (some ⟨p,0,none⟩),.int .i64 e,.int .i64 b] w λr w'=>
 r=.returned (.tuple #[])/\∃x',fX K w' p x' (m.fail e b) ns/\Rest x x'/\x'.nodes=x.nodes/\aQ K w w':=by
 refine (VA p x w h.pen e b).mono ?_;rintro r w' ⟨rfl,rfl⟩;refine ⟨rfl,?_⟩
 cases m with
 |dead e' b'=>
   obtain ⟨h1,_,h3⟩:=h.mode;rw [aA (by rw [h1];exact h3)];exact ⟨x,h,Rest.refl x,rfl,aQ.refl _ _⟩
 |live t ts=>
   obtain ⟨h1,_⟩:=h.mode;rw [aH h1];have hP:qw ((w.setCell ⟨p,6,none⟩ (.int .i64 e)).setCell ⟨p,7,none⟩ (.int .i64 b)) p { x with e:=e,bad:=b }:=by
    have h1:qw (w.setCell ⟨p,6,none⟩ (.int .i64 e)) p { x with e:=e }:=h.pen.set 6 _ (by simp [gX]);exact h1.set 7 _ (by simp [gX])
   have hK:aQ (Other p w) w ((w.setCell ⟨p,6,none⟩ (.int .i64 e)).setCell ⟨p,7,none⟩ (.int .i64 b)):=((aQ.refl _ _).own 6 _).own 7 _;exact ⟨_,h.wrote hP hK ⟨rfl,rfl,rfl,rfl,rfl,rfl,rfl,rfl,rfl,rfl,rfl,rfl⟩ rfl h.pos h.tk h.tn h.tp ⟨rfl,rfl,he⟩,⟨rfl,rfl,rfl,rfl,rfl,rfl,rfl,rfl,rfl,rfl,rfl,rfl⟩,rfl,hK.mono h.other⟩
theorem fX.also {K':Nat->Prop}{w':World}(h:fX K w p x m ns)(hb:Below w.heap.size w w')(hK:∀k,K' k->K k\/(w.heap.size<=k/\k<w'.heap.size))(h0:K' 0):fX K' w' p x m ns:=by
 have cF:=h.pen.lt;refine ⟨h.pen.eo (hb.block p cF),h.laid.below hb,h.p0,h.zm,h.pos,h.tk,h.tn,h.tp,h.mode,
  h.own.kept (w':=w') (row:=none) ⟨hb.os,hb.tape,hb.output,hb.size,λk hk _=>hb.block k hk⟩ (by cases x.nodes.ownBlock<;>simp),h.apart,h0,?_,?_,?_⟩
 . intro hk
   rcases hK p hk with h'|h'
   . exact h.kp h'
   . omega
 . intro g hg hk
   rcases hK g hk with h'|h'
   . exact h.kv g hg h'
   . have:=(h.own.lt g hg).2;omega
 . intro k hk
   rcases hK k hk with h'|h'
   . exact aF (h.old k h') hb.size
   . exact h'.2
theorem fX.less {K':Nat->Prop}(h:fX K w p x m ns)(hK:∀k,K' k->K k)(h0:K' 0):fX K' w p x m ns:=
 ⟨h.pen,h.laid,h.p0,h.zm,h.pos,h.tk,h.tn,h.tp,h.mode,h.own,h.apart,h0,λhk=>h.kp (hK p hk),λg hg hk=>h.kv g hg (hK g hk),λk hk=>h.old k (hK k hk)⟩
theorem fX.below {w':World}(h:fX K w p x m ns)(hb:Below w.heap.size w w'):fX K w' p x m ns:=h.also hb (λ_ hk=>.inl hk) h.k0
theorem fX.ne (h:fX K w p x m ns){r:Nat}(hr:K r):r≠p/\x.nodes.ownBlock≠some r:=
 ⟨λe=>h.kp (e ▸ hr),λe=>h.kv r e hr⟩
theorem fX.put (h:fX K w p x m ns){r:Nat}(h1:r≠p)(h2:x.nodes.ownBlock≠some r)(h3:¬K r)(i:Nat)(v:Value):fX K (w.setCell ⟨r,i,none⟩ v) p x m ns:=by
 have ZA:r≠0:=λe=>h3 (e ▸ h.k0);refine ⟨h.pen.eo (aD _ _ _ _ (Ne.symm h1)),?_,h.p0,h.zm,h.pos,h.tk,h.tn,h.tp,h.mode,
  h.own.kept (grownBy_setCell w ⟨r,i,none⟩ v) (.inr h2),h.apart,h.k0,h.kp,h.kv,λk hk=>by simpa [World.setCell] using h.old k hk⟩
 intro j s hs;have e:=bJ (w:=w) (w':=w.setCell ⟨r,i,none⟩ v) (a:=⟨0,j,none⟩) (aD _ _ _ _ (Ne.symm ZA));exact e.trans (h.laid j s hs)
theorem fX.drewN (h:fX K w p x m ns)(n:Nat):fX K (w.drewN n) p x m ns:=⟨h.pen,h.laid,h.p0,h.zm,h.pos,h.tk,h.tn,h.tp,h.mode,h.own,h.apart,h.k0,h.kp,h.kv,h.old⟩
theorem fX.drew (h:fX K w p x m ns):fX K w.drew p x m ns:=⟨h.pen,h.laid,h.p0,h.zm,h.pos,h.tk,h.tn,h.tp,h.mode,h.own,h.apart,h.k0,h.kp,h.kv,h.old⟩
theorem DV {t:Tok}{ts:List Tok}{s:ByteArray}(h:(Mode.live t ts).is s=true):t.k.ends=false:=by
 obtain ⟨k,pl⟩:=t
 cases k<;>simp [Mode.is,Mode.tk,Tk.ends] at h ⊢
theorem rY (h:zl x m)(e:Nat):m.fail e x.tp=m.wrong e:=by
 cases m with
 |dead e' b'=>rfl
 |live t ts=>obtain ⟨_,_,h3,_⟩:=h;unfold Mode.wrong Mode.place;rw [h3]
end
theorem aad {K:Nat->Prop}{w:World}{p:Nat}{x:eT}{m:Mode}{ns:List jA}(h:fX K w p x m ns)(t:ByteArray):Calls Tryz.prog 35 #[.pointer (some ⟨p,0,none⟩),.string t] w λr w'=>
 r=.returned (.int .i64 x.tp)/\∃x',fX K w' p x' (m.take t) ns/\Rest x x'/\x'.nodes=x.nodes/\aQ K w w':=by
 have c4:w.cell? ⟨p,4,none⟩=some (.int .i64 x.tp):=h.pen.cell 4;have H:=hide h;clear h;go_enter Tryz.func35,Tryz.ntmps35;go_wp2_with fail;refine (ab2 (ae H) t).mono ?_;rintro r w1 ⟨rfl,rfl⟩
 cases Dm:m.is t
 . go_wp2_with fail
   refine (Ax (ae H) 2 x.tp (by decide)).mono ?_;rintro r w1 ⟨rfl,x1,h1,h2,h3,h4⟩;have H1:=hide h1;have H4:=hide h4;clear h1 h4;go_wp2_with fail;go_ret;refine ⟨rfl,x1,?_,h2,h3,ae H4⟩;have e:m.take t=m.fail 2 x.tp:=by unfold Mode.take;rw [Dm,rY (ae H).mode];rfl
   rw [e];exact ae H1
 . go_wp2_with fail
   refine (DT (ae H) (λt ts hm=>by subst hm;exact DV Dm)).mono ?_;rintro r w1 ⟨rfl,x1,h1,h2,h3,h4⟩;have H1:=hide h1;have H4:=hide h4;clear h1 h4;go_wp2_with fail;go_ret;refine ⟨rfl,x1,?_,h2,h3,ae H4⟩;have e:m.take t=m.next:=by unfold Mode.take;rw [Dm];rfl
   rw [e];exact ae H1
theorem aae {x:eT}{m:Mode}(h:zl x m)(he:x.e=0)(hk:x.tk=97):m.name=((x.tt,x.tp),m.next)/\∀t ts,m=.live t ts->t.k.ends=false:=by
 cases m with
 |dead e b=>obtain ⟨h1,_,h3⟩:=h;exact absurd (h1.symm.trans he) h3
 |live t ts=>
   obtain ⟨h1,h2,h3,_⟩:=h;obtain ⟨k,pl⟩:=t
   cases k<;>simp only [lN] at h2
   case stop=>omega
   case bad=>omega
   case word s=>omega
   case num s=>omega
   case str s=>omega
   case sign s=>omega
   case name s=>
    refine ⟨?_,λt ts e=>by cases e;rfl⟩;simp only at h3;simp [Mode.name,Mode.tk,Mode.place,h2.2,h3]
theorem Mu {x:eT}{m:Mode}(h:zl x m)(hn:¬(x.e=0/\x.tk=97)):m.name=((ByteArray.empty,0),m.wrong 2):=by
 cases m with
 |dead e b=>rfl
 |live t ts=>
   obtain ⟨h1,h2,h3,_⟩:=h;obtain ⟨k,pl⟩:=t
   cases k<;>simp only [lN] at h2
   case name s=>exact absurd ⟨h1,h2.1⟩ hn
   all_goals rfl
def Fo (n:ByteArray×Nat):Value:=.agg #[.string n.1,.int .i64 n.2]
theorem aaf {K:Nat->Prop}{w:World}{p:Nat}{x:eT}{m:Mode}{ns:List jA}(h:fX K w p x m ns):Calls Tryz.prog 32 #[.pointer (some ⟨p,0,none⟩)] w λr w'=>
 r=.returned (Fo m.name.1)/\∃x',fX K w' p x' m.name.2 ns/\Rest x x'/\x'.nodes=x.nodes/\aQ K w w':=by
 have c2:w.cell? ⟨p,2,none⟩=some (.int .u8 x.tk):=h.pen.cell 2;have c3:w.cell? ⟨p,3,none⟩=some (.string x.tt):=h.pen.cell 3;have c4:w.cell? ⟨p,4,none⟩=some (.int .i64 x.tp):=h.pen.cell 4;have c6:w.cell? ⟨p,6,none⟩=some (.int .i64 x.e):=h.pen.cell 6;have cF:=h.pen.lt;have H:=hide h;clear h;by_cases he:x.e=0
 . by_cases hk:x.tk=97
   . obtain ⟨Po,Rl⟩:=aae (ae H).mode he hk
     have Mv:m.name.1=(x.tt,x.tp):=by rw [Po]
     have Fp:m.name.2=m.next:=by rw [Po]
     clear Po;have zT:((x.e:Int)==0)=true:=by rw [bz];omega
     have QS:((x.tk:Int)==97)=true:=by rw [bz];omega
     go_enter Tryz.func32,Tryz.ntmps32;go_wp2_with fail;go_region;go_wp2_with fail;generalize hW:World.drew _=W;obtain ⟨b1,b2,b3,b4⟩:Below w.heap.size w W/\W.heap[w.heap.size]?=some (.cells #[.string ⟨#[]⟩,.int .i64 0] 34 (0,0))/\W.heap[w.heap.size+1]?=some (.cells #[.string x.tt,.int .i64 x.tp] 34 (0,0))/\W.heap.size=w.heap.size+2:=by rw [<- hW];exact DU w _ _
     have hS:fX (λk=>K k\/k=w.heap.size\/k=w.heap.size+1) W p x m ns:=(ae H).also b1 (λk hk=>by rcases hk with hk|hk|hk;exact .inl hk;exact .inr (by omega);exact .inr (by omega)) (.inl (ae H).k0);refine (DT hS Rl).mono ?_;rintro r w1 ⟨rfl,x1,h1,h2,h3,h4⟩;have kX:w1.heap[w.heap.size]?=some _:=(h4.block w.heap.size (.inr (.inl rfl))).trans b2;have bL:w1.heap[w.heap.size+1]?=some _:=(h4.block (w.heap.size+1) (.inr (.inr rfl))).trans b3;have d0:w1.cell? ⟨w.heap.size,0,none⟩=some (.string ⟨#[]⟩):=by simp [World.cell?,kX]
     have d1:w1.cell? ⟨w.heap.size,1,none⟩=some (.int .i64 0):=by simp [World.cell?,kX]
     have d2:w1.cell? ⟨w.heap.size+1,0,none⟩=some (.string x.tt):=by simp [World.cell?,bL]
     have d3:w1.cell? ⟨w.heap.size+1,1,none⟩=some (.int .i64 x.tp):=by simp [World.cell?,bL]
     have z0:w1.frozen? ⟨w.heap.size,0,none⟩=false:=by simp [World.frozen?,kX]
     have z1:w1.frozen? ⟨w.heap.size,1,none⟩=false:=by simp [World.frozen?,kX]
     have iq:=h1.ne (r:=w.heap.size) (.inr (.inl rfl));have Rm:¬K w.heap.size:=λhk=>bx _ ((ae H).old _ hk);have H1:=hide (h1.less (K':=K) (λk hk=>.inl hk) (ae H).k0);have H4:=hide ((aQ.nP (K:=K) ⟨b1.os,b1.tape,b1.output,b1.size,λk hk _=>b1.block k hk⟩ (ae H).old).trans (h4.mono (λk hk=>.inl hk)));clear h1 h4 kX bL b1 b2 b3 b4 hW;go_wp2_with fail
     (try simp only [Exit.inBlock,Exit.then])
     refine ay (v:=Fo (x.tt,x.tp)) (by simp [results,Tryz.results32,go_sem,Fo,d0,d1];try rfl) rfl ?_;refine ⟨by rw [Mv],x1,?_,h2,h3,?_⟩
     . rw [Fp]
       exact ((ae H1).put iq.1 (by rw [h3] at iq ⊢;exact iq.2) Rm 0 _).put iq.1 (by rw [h3] at iq ⊢;exact iq.2) Rm 1 _
     . exact ((ae H4).setCell (p:=⟨w.heap.size,0,none⟩) Rm _).setCell (p:=⟨w.heap.size,1,none⟩) Rm _
   . have zT:((x.e:Int)==0)=true:=by rw [bz];omega
     have QS:((x.tk:Int)==97)=false:=by rw [aj];omega
     have Pp:=Mu (ae H).mode (λh=>hk h.2);have Mv:m.name.1=(ByteArray.empty,0):=by rw [Pp]
     have Fp:m.name.2=m.fail 2 x.tp:=by rw [Pp,rY (ae H).mode]
     clear Pp;go_enter Tryz.func32,Tryz.ntmps32;go_wp2_with fail;go_region;go_wp2_with fail;generalize hW:World.drew _=W;obtain ⟨b1,b2,b3,b4⟩:Below w.heap.size w W/\W.heap[w.heap.size]?=some (.cells #[.string ⟨#[]⟩,.int .i64 0] 34 (0,0))/\W.heap[w.heap.size+1]?=some (.cells #[.string x.tt,.int .i64 x.tp] 34 (0,0))/\W.heap.size=w.heap.size+2:=by rw [<- hW];exact DU w _ _
     have hS:fX (λk=>K k\/k=w.heap.size\/k=w.heap.size+1) W p x m ns:=(ae H).also b1 (λk hk=>by rcases hk with hk|hk|hk;exact .inl hk;exact .inr (by omega);exact .inr (by omega)) (.inl (ae H).k0);refine (Ax hS 2 x.tp (by decide)).mono ?_;rintro r w1 ⟨rfl,x1,h1,h2,h3,h4⟩;have kX:w1.heap[w.heap.size]?=some _:=(h4.block w.heap.size (.inr (.inl rfl))).trans b2;have bL:w1.heap[w.heap.size+1]?=some _:=(h4.block (w.heap.size+1) (.inr (.inr rfl))).trans b3;have d0:w1.cell? ⟨w.heap.size,0,none⟩=some (.string ⟨#[]⟩):=by simp [World.cell?,kX]
     have d1:w1.cell? ⟨w.heap.size,1,none⟩=some (.int .i64 0):=by simp [World.cell?,kX]
     have d2:w1.cell? ⟨w.heap.size+1,0,none⟩=some (.string x.tt):=by simp [World.cell?,bL]
     have d3:w1.cell? ⟨w.heap.size+1,1,none⟩=some (.int .i64 x.tp):=by simp [World.cell?,bL]
     have z0:w1.frozen? ⟨w.heap.size,0,none⟩=false:=by simp [World.frozen?,kX]
     have z1:w1.frozen? ⟨w.heap.size,1,none⟩=false:=by simp [World.frozen?,kX]
     have iq:=h1.ne (r:=w.heap.size) (.inr (.inl rfl));have Rm:¬K w.heap.size:=λhk=>bx _ ((ae H).old _ hk);have H1:=hide (h1.less (K':=K) (λk hk=>.inl hk) (ae H).k0);have H4:=hide ((aQ.nP (K:=K) ⟨b1.os,b1.tape,b1.output,b1.size,λk hk _=>b1.block k hk⟩ (ae H).old).trans (h4.mono (λk hk=>.inl hk)));clear h1 h4 kX bL b1 b2 b3 b4 hW;go_wp2_with fail
     (try simp only [Exit.inBlock,Exit.then])
     refine ay (v:=Fo (ByteArray.empty,0)) (by simp [results,Tryz.results32,go_sem,Fo,d0,d1];try rfl) rfl ?_;refine ⟨by rw [Mv],x1,?_,h2,h3,?_⟩
     . rw [Fp]
       exact ((ae H1).put iq.1 (by rw [h3] at iq ⊢;exact iq.2) Rm 0 _).put iq.1 (by rw [h3] at iq ⊢;exact iq.2) Rm 1 _
     . exact ((ae H4).setCell (p:=⟨w.heap.size,0,none⟩) Rm _).setCell (p:=⟨w.heap.size,1,none⟩) Rm _
 . have zT:((x.e:Int)==0)=false:=by rw [aj];omega
   have Pp:=Mu (ae H).mode (λh=>he h.1);have Mv:m.name.1=(ByteArray.empty,0):=by rw [Pp]
   have Fp:m.name.2=m.fail 2 x.tp:=by rw [Pp,rY (ae H).mode]
   clear Pp;go_enter Tryz.func32,Tryz.ntmps32;go_wp2_with fail;go_region;go_wp2_with fail;generalize hW:World.drew _=W;obtain ⟨b1,b2,b3,b4⟩:Below w.heap.size w W/\W.heap[w.heap.size]?=some (.cells #[.string ⟨#[]⟩,.int .i64 0] 34 (0,0))/\W.heap[w.heap.size+1]?=some (.cells #[.string x.tt,.int .i64 x.tp] 34 (0,0))/\W.heap.size=w.heap.size+2:=by rw [<- hW];exact DU w _ _
   have hS:fX (λk=>K k\/k=w.heap.size\/k=w.heap.size+1) W p x m ns:=(ae H).also b1 (λk hk=>by rcases hk with hk|hk|hk;exact .inl hk;exact .inr (by omega);exact .inr (by omega)) (.inl (ae H).k0);refine (Ax hS 2 x.tp (by decide)).mono ?_;rintro r w1 ⟨rfl,x1,h1,h2,h3,h4⟩;have kX:w1.heap[w.heap.size]?=some _:=(h4.block w.heap.size (.inr (.inl rfl))).trans b2;have bL:w1.heap[w.heap.size+1]?=some _:=(h4.block (w.heap.size+1) (.inr (.inr rfl))).trans b3;have d0:w1.cell? ⟨w.heap.size,0,none⟩=some (.string ⟨#[]⟩):=by simp [World.cell?,kX]
   have d1:w1.cell? ⟨w.heap.size,1,none⟩=some (.int .i64 0):=by simp [World.cell?,kX]
   have d2:w1.cell? ⟨w.heap.size+1,0,none⟩=some (.string x.tt):=by simp [World.cell?,bL]
   have d3:w1.cell? ⟨w.heap.size+1,1,none⟩=some (.int .i64 x.tp):=by simp [World.cell?,bL]
   have z0:w1.frozen? ⟨w.heap.size,0,none⟩=false:=by simp [World.frozen?,kX]
   have z1:w1.frozen? ⟨w.heap.size,1,none⟩=false:=by simp [World.frozen?,kX]
   have iq:=h1.ne (r:=w.heap.size) (.inr (.inl rfl));have Rm:¬K w.heap.size:=λhk=>bx _ ((ae H).old _ hk);have H1:=hide (h1.less (K':=K) (λk hk=>.inl hk) (ae H).k0);have H4:=hide ((aQ.nP (K:=K) ⟨b1.os,b1.tape,b1.output,b1.size,λk hk _=>b1.block k hk⟩ (ae H).old).trans (h4.mono (λk hk=>.inl hk)));clear h1 h4 kX bL b1 b2 b3 b4 hW;go_wp2_with fail
   (try simp only [Exit.inBlock,Exit.then])
   refine ay (v:=Fo (ByteArray.empty,0)) (by simp [results,Tryz.results32,go_sem,Fo,d0,d1];try rfl) rfl ?_;refine ⟨by rw [Mv],x1,?_,h2,h3,?_⟩
   . rw [Fp]
     exact ((ae H1).put iq.1 (by rw [h3] at iq ⊢;exact iq.2) Rm 0 _).put iq.1 (by rw [h3] at iq ⊢;exact iq.2) Rm 1 _
   . exact ((ae H4).setCell (p:=⟨w.heap.size,0,none⟩) Rm _).setCell (p:=⟨w.heap.size,1,none⟩) Rm _
end Go.Proofs.YteniahoehoncjaaGreatDoor
