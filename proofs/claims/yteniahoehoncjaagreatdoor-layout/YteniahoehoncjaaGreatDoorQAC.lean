import Derived.Test.YteniahoehoncjaaGreatDoorQAB
import Derived.BigQuiet
import Derived.Handy
import Derived.Deep.RegionLaw
set_option maxHeartbeats 99999999
set_option maxRecDepth 100000
namespace Go.Proofs.YteniahoehoncjaaGreatDoor
open Go.RowKit
def G6 (k:Nat)(t:ByteArray)(p:Nat)(n:Int):Value:=.agg #[.int .u8 k,.string t,.int .i64 p,.int .i64 n]
def lN (k:Nat)(t:ByteArray)(n:Int):Tk->Prop
 |.stop=>k=0
 |.bad=>k=33
 |.word s=>k=119/\t=s/\n=0
 |.name s=>k=97/\t=s
 |.num m=>k=110/\n=m
 |.str s=>k=115/\t=s
 |.sign s=>k=112/\t=s
theorem bB {B:Nat}{a w:World}(h:Below B a w){p:Addr}(hp:B<=p.block)(u:Value):Below B a (w.setCell p u):=
 ⟨h.os,h.tape,h.output,by simp [World.setCell];exact h.size,λk hk=>(aD _ _ _ _ (by omega)).trans (h.block k hk)⟩
theorem aJ {B:Nat}{a w:World}(h:Below B a w):Below B a w.drew:=⟨h.os,h.tape,h.output,h.size,h.block⟩
theorem extract_zero (S:ByteArray)(i e:Nat)(h1:i<e)(h2:e<=S.size)(h:0<(S.extract i e).size):(S.extract i e)[0]=S[i]'(by omega):=by
 simp [ByteArray.getElem_extract]
theorem sI {P:Program}(w:World)(t:TypeId)(s:ByteArray)(ht:P.underlying t=some .string)(l h:Nat)(h1:l<=h)(h2:h<=s.size) :
 (Instr.slice t (.string s) (some (.int .i64 l)) (some (.int .i64 h)) none).run P w=.ok (.string (s.extract l h)) w:=by
 simp [Instr.slice,run_underlying ht,Instr.sliceBounds,run_sliceBound, *]
def q8 (S:ByteArray)(i e:Nat)(h:i<S.size):Tk:=
 if ct S[i] then (if 8<e - i then .bad else if bS.any (kh (S.extract i e)) then .word (S.extract i e) else .name (S.extract i e))
 else if 19<e - i\/9223372036854775807<lM (S.extract i e).data.toList then .bad else .num (lM (S.extract i e).data.toList)
theorem ZD {t:ByteArray}{n:Nat}(h:zY t=some n):n<=9223372036854775807:=by
 unfold zY at h;split at h
 . cases h
 . cases h;omega
theorem Laid.below {w w':World}(h:Laid w)(hb:Below w.heap.size w w'):Laid w':=by
 intro i s hs;have h1:=h i s hs;have cF:0<w.heap.size:=aX _ _ h1;exact (hb.cell (p:=⟨0,i,none⟩) cF).trans h1
theorem EM (p:Nat)(x:eT)(en:Nat)(w:World)(h:qw w p x)(hl:Laid w)(h1:x.pos<en)(h2:en<=x.S.size)
 (hd:ct (x.S[x.pos]'(by omega))=false->∀i (hi:i<(x.S.extract x.pos en).size),cD (x.S.extract x.pos en)[i]=true) :
 Calls Tryz.prog 27 #[.pointer (some ⟨p,0,none⟩),.int .i64 en] w λr w'=>
 ∃k t n,r=.returned (G6 k t x.pos n)/\lN k t n (q8 x.S x.pos en (by omega))/\k<256/\bZ n/\Below w.heap.size w w':=by
 have c0:w.cell? ⟨p,0,none⟩=some (.string x.S):=h.cell 0;have c1:w.cell? ⟨p,1,none⟩=some (.int .i64 x.pos):=h.cell 1;have cF:=h.lt;have kd:(x.S.extract x.pos en).size=en - x.pos:=by rw [cH];omega
 have hz:=extract_zero x.S x.pos en h1 h2 (by omega);have HL:=hide hl;have HP:=hide h;clear hl h;have g1:(x.pos:Int)<=en:=by omega
 have g2:(en:Int)<=x.S.size:=by omega
 have g3:¬(en:Int)<x.pos:=by omega
 have g4:¬(x.S.size:Int)<en:=by omega
 obtain ⟨T,hT⟩:∃T,T=x.S.extract x.pos en:=⟨_,rfl⟩;have hTs:T.size=en - x.pos:=by rw [hT];exact kd
 have hT0:∀h0:0<T.size,T[0]=x.S[x.pos]'(by omega):=by subst hT;exact λ_=>hz
 have hD:ct (x.S[x.pos]'(by omega))=false->∀i (hi:i<T.size),cD T[i]=true:=by subst hT;exact hd
 have HT:=hide hT;have LC:=hide hT0;have HD:=hide hD;clear hT hT0 hD hd hz kd;go_enter Tryz.func27,Tryz.ntmps27;go_wp2_with fail;go_region;rw [<- ae HT];go_wp2_with fail;have hT1:0<T.size:=by omega
 refine (mH _ _).mono ?_;rintro e w1 ⟨rfl,rfl⟩;have hE:jU T[0].toNat=ct x.S[x.pos]:=by rw [<- ae LC hT1];rfl
 rw [hE];have qi:∀(o o':Obj),Laid ((w.alloc o).alloc o').drew:=λo o'=>(ae HL).below (aJ (((ag _ _).alloc (af _) o).alloc (by simp) o'));have Bt:=hide qi;clear qi hE;by_cases hb:ct x.S[x.pos]=true
 . rw [hb]
   go_wp2_with fail;refine (LB T _ (ae Bt _ _)).mono ?_;rintro e w1 ⟨rfl,rfl⟩;have hwt:q8 x.S x.pos en (by omega)=if 8<en - x.pos then .bad else if bS.any (kh T) then .word T else .name T:=by
    unfold q8;rw [aH hb,ae HT]
   have HW:=hide hwt;clear hwt;by_cases h8:8<en - x.pos
   . have h8':(8:Int)<T.size:=by omega
     have h9:q8 x.S x.pos en (by omega)=.bad:=by rw [ae HW,aH h8]
     have HW9:=hide h9;clear h9
     cases bS.any (kh T)
     . go_wp2_with fail
       go_returns;exact ⟨33,T,0,rfl,by rw [ae HW9];exact rfl,by decide,by unfold bZ;decide,aJ (((ag _ _).alloc (af _) _).alloc (by simp) _)⟩
     . go_wp2_with fail
       go_returns;exact ⟨33,T,0,rfl,by rw [ae HW9];exact rfl,by decide,by unfold bZ;decide,aJ (((ag _ _).alloc (af _) _).alloc (by simp) _)⟩
   . have h8':¬(8:Int)<T.size:=by omega
     cases nS:bS.any (kh T)
     . have h9:q8 x.S x.pos en (by omega)=.name T:=by rw [ae HW,aA h8,nS];rfl
       have HW9:=hide h9;clear h9;go_wp2_with fail;go_returns;exact ⟨97,T,0,rfl,by rw [ae HW9];exact ⟨rfl,rfl⟩,by decide,by unfold bZ;decide,aJ (((ag _ _).alloc (af _) _).alloc (by simp) _)⟩
     . have h9:q8 x.S x.pos en (by omega)=.word T:=by rw [ae HW,aA h8,nS];rfl
       have HW9:=hide h9;clear h9;go_wp2_with fail;go_returns;exact ⟨119,T,0,rfl,by rw [ae HW9];exact ⟨rfl,rfl,rfl⟩,by decide,by unfold bZ;decide,aJ (((ag _ _).alloc (af _) _).alloc (by simp) _)⟩
 . have kX:ct x.S[x.pos]=false:=by simpa using hb
   rw [kX];go_wp2_with fail;refine (OL T _ (ae HD kX)).mono ?_;rintro e w1 ⟨rfl,rfl⟩;have hwt:q8 x.S x.pos en (by omega)=(match zY T with|some n=>.num n|none=>.bad):=by
    unfold q8 zY;rw [aA hb,hTs,ae HT];split<;>rfl
   have HW:=hide hwt;clear hwt
   cases hn:zY T with
   |none=>
     rw [Bw hn];go_wp2_with fail;go_returns;exact ⟨33,T,0,rfl,by rw [ae HW,hn];exact rfl,by decide,by unfold bZ;decide,aJ (((ag _ _).alloc (af _) _).alloc (by simp) _)⟩
   |some n=>
     rw [Ir hn];go_wp2_with fail;go_returns;exact ⟨110,T,n,rfl,by rw [ae HW,hn];exact ⟨rfl,rfl⟩,by decide,by have:=ZD hn;unfold bZ;omega,aJ (((ag _ _).alloc (af _) _).alloc (by simp) _)⟩
def rm (S:ByteArray)(i:Nat)(h:i<S.size):Tk:=if ej S i h=0 then .bad else .sign (S.extract i (i+ej S i h))
theorem fS (w:World)(o:Obj)(n:Nat):Below w.heap.size w ((w.alloc o).drewN n)/\((w.alloc o).drewN n).heap[w.heap.size]?=some o:=by
 have h1:Below w.heap.size w (w.alloc o):=(ag _ _).alloc (af _) o;refine ⟨⟨h1.os,h1.tape,h1.output,h1.size,h1.block⟩,ai w o⟩
structure ate (W:World)(r:Nat):Prop where
 c0:∃v,W.cell? ⟨r,0,none⟩=some v
 c1:∃v,W.cell? ⟨r,1,none⟩=some v
 c2:∃v,W.cell? ⟨r,2,none⟩=some v
 c3:∃v,W.cell? ⟨r,3,none⟩=some v
 fz:∀i,W.frozen? ⟨r,i,none⟩=false
def gY:List UInt8:=[40,41,44,124,58,61,60,62,43,45,42,47,37]
theorem Mg {S:ByteArray}{i:Nat}{h:i<S.size}(h2:i+1<S.size)(hc:(S[i].toNat=60/\(S[i+1].toNat=62\/S[i+1].toNat=61))\/(S[i].toNat=62/\S[i+1].toNat=61)):ej S i h=2:=by
 unfold ej;rw [iX h2,aH hc]
theorem Mh {S:ByteArray}{i:Nat}{h:i<S.size}(hc:∀h2:i+1<S.size,¬((S[i].toNat=60/\(S[i+1].toNat=62\/S[i+1].toNat=61))\/(S[i].toNat=62/\S[i+1].toNat=61)))(hm:S[i]∈gY):ej S i h=1:=by
 have xV:S[i].toNat∈[40,41,44,124,58,61,60,62,43,45,42,47,37]:=List.mem_map_of_mem (f:=UInt8.toNat) hm;unfold ej;simp only;rw [aA ?_,aH xV];split
 . rename_i h2;exact hc h2
 . omega
theorem Kl {S:ByteArray}{i:Nat}{h:i<S.size}(hc:∀h2:i+1<S.size,¬((S[i].toNat=60/\(S[i+1].toNat=62\/S[i+1].toNat=61))\/(S[i].toNat=62/\S[i+1].toNat=61)))(hm:¬S[i]∈gY):ej S i h=0:=by
 have xV:¬S[i].toNat∈[40,41,44,124,58,61,60,62,43,45,42,47,37]:=by
  intro h';have:S[i].toNat∈gY.map UInt8.toNat:=h';rw [dv] at this;obtain ⟨c,sS,he⟩:=this;have:=eK.mp he;subst this;exact hm sS
 unfold ej;simp only;rw [aA ?_,aA xV];split
 . rename_i h2;exact hc h2
 . omega
theorem Wj (p:Nat)(x:eT)(w:World)(h:qw w p x)(h1:x.pos<x.S.size)(h3:x.S.size<=300)(hA:x.pos+1<x.S.size)
 (hc:(x.S[x.pos].toNat=60/\(x.S[x.pos+1].toNat=62\/x.S[x.pos+1].toNat=61))\/(x.S[x.pos].toNat=62/\x.S[x.pos+1].toNat=61)) :
 Calls Tryz.prog 29 #[.pointer (some ⟨p,0,none⟩)] w λr w'=>
 ∃k t n,r=.returned (G6 k t x.pos n)/\lN k t n (rm x.S x.pos h1)/\t.size=ej x.S x.pos h1/\k<256/\bZ n/\Below w.heap.size w w':=by
 have c0:w.cell? ⟨p,0,none⟩=some (.string x.S):=h.cell 0;have c1:w.cell? ⟨p,1,none⟩=some (.int .i64 x.pos):=h.cell 1;have cF:=h.lt;clear h;have g1:(x.pos:Int)<x.S.size:=by omega
 obtain ⟨q,Hj⟩:∃q:Nat,q=x.pos+1:=⟨_,rfl⟩;obtain ⟨q2,Cw⟩:∃q2:Nat,(x.pos:Int)+2=q2:=⟨x.pos+2,by omega⟩;have HS:=hide (Mg (h:=h1) hA hc);have hq:(x.pos:Int)+1=q:=by omega
 have hqs:q<x.S.size:=by omega
 have JI:(x.S[x.pos].toNat=60/\(x.S[q].toNat=62\/x.S[q].toNat=61))\/(x.S[x.pos].toNat=62/\x.S[q].toNat=61):=by subst Hj;exact hc
 have HQ:=hide Hj;clear hc Hj;have g2:(q:Int)<x.S.size:=by omega
 have g5:(q2:Int)<=x.S.size:=by omega
 have g7:q2<=x.S.size:=by omega
 have g8:x.pos<=q2:=by omega
 have hsl:∀w,(Instr.slice 9 (.string x.S) (some (.int .i64 x.pos)) (some (.int .i64 q2)) none).run Tryz.prog w=.ok (.string (x.S.extract x.pos q2)) w:=λw=>sI w 9 x.S Tryz.underlying9 x.pos q2 g8 g7;have ze:(x.S.extract x.pos q2).size=2:=by rw [cH];omega
 have nS:rm x.S x.pos h1=.sign (x.S.extract x.pos q2):=by
  unfold rm;rw [ae HS,aA (by omega),show x.pos+2=q2 from by omega]
 have HT:=hide ze;have HK:=hide nS;clear ze nS;go_enter Tryz.func29,Tryz.ntmps29;go_wp2_with fail;go_quiet (fail);go_wp2_with fail;go_quiet (fail);go_wp2_with fail;go_quiet (fail);rcases JI with ⟨e1,e2|e2⟩|⟨e1,e2⟩
 all_goals
  have e1':(x.S[x.pos].toNat:Int)=_:=aU Nat.cast e1;have e2':(x.S[q].toNat:Int)=_:=aU Nat.cast e2;clear e1 e2;go_wp2_with fail;go_region;go_wp2_with fail;go_returns;exact ⟨112,_,0,rfl,by rw [ae HK];exact ⟨rfl,rfl⟩,by rw [ae HT,ae HS],by decide,by unfold bZ;decide,
   bB (bB (bB (bB (fS w _ _).1 (af _) _) (af _) _) (af _) _) (af _) _⟩
theorem Km (w:World)(n m:Nat):(w.drewN n).drewN m=w.drewN (n+m):=by simp
theorem Kn (w:World)(n m k:Nat):((w.drewN n).drewN m).drewN k=w.drewN (n+m+k):=by simp
theorem Fb (p:Nat)(x:eT)(w:World)(h:qw w p x)(h1:x.pos<x.S.size)(h3:x.S.size<=300)
 (hc:∀h2:x.pos+1<x.S.size,¬((x.S[x.pos].toNat=60/\(x.S[x.pos+1].toNat=62\/x.S[x.pos+1].toNat=61))\/(x.S[x.pos].toNat=62/\x.S[x.pos+1].toNat=61))) :
 Calls Tryz.prog 29 #[.pointer (some ⟨p,0,none⟩)] w λr w'=>
 ∃k t n,r=.returned (G6 k t x.pos n)/\lN k t n (rm x.S x.pos h1)/\t.size=ej x.S x.pos h1/\k<256/\bZ n/\Below w.heap.size w w':=by
 have c0:w.cell? ⟨p,0,none⟩=some (.string x.S):=h.cell 0;have c1:w.cell? ⟨p,1,none⟩=some (.int .i64 x.pos):=h.cell 1;have cF:=h.lt;have HP:=hide h;clear h;have g1:(x.pos:Int)<x.S.size:=by omega
 obtain ⟨q,Hj⟩:∃q:Nat,q=x.pos+1:=⟨_,rfl⟩;have hq:(x.pos:Int)+1=q:=by omega
 have JI:∀h2:q<x.S.size,¬((x.S[x.pos].toNat=60/\(x.S[q].toNat=62\/x.S[q].toNat=61))\/(x.S[x.pos].toNat=62/\x.S[q].toNat=61)):=by subst Hj;exact hc
 have g7:q<=x.S.size:=by omega
 have g8:x.pos<=q:=by omega
 have hsl:∀w,(Instr.slice 9 (.string x.S) (some (.int .i64 x.pos)) (some (.int .i64 q)) none).run Tryz.prog w=.ok (.string (x.S.extract x.pos q)) w:=λw=>sI w 9 x.S Tryz.underlying9 x.pos q g8 g7;have ze:(x.S.extract x.pos q).size=1:=by rw [cH];omega
 have qn:x.S[x.pos]∈gY->ej x.S x.pos h1=1/\rm x.S x.pos h1=.sign (x.S.extract x.pos q):=λhm=>by
  have h':=Mh (h:=h1) hc hm;exact ⟨h',by unfold rm;rw [h',aA (by omega),show x.pos+1=q from by omega]⟩
 have ahR:¬x.S[x.pos]∈gY->ej x.S x.pos h1=0/\rm x.S x.pos h1=.bad:=λhm=>by
  have h':=Kl (h:=h1) hc hm;exact ⟨h',by unfold rm;rw [h',aH rfl]⟩
 have HT:=hide ze;have HO:=hide qn;have HN:=hide ahR;have HC:=hide JI;have HQ:=hide Hj;clear ze qn ahR hc JI Hj;by_cases hA:q<x.S.size
 . have g2:(q:Int)<x.S.size:=by omega
   have YL:=ae HC hA;by_cases k60:(x.S[x.pos].toNat:Int)=60
   . have e1:((x.S[q].toNat:Int)==62)=false:=by rw [aj];omega
     have e2:((x.S[q].toNat:Int)==61)=false:=by rw [aj];omega
     clear YL;go_enter Tryz.func29,Tryz.ntmps29;go_wp2_with fail;go_quiet (fail);go_wp2_with fail;go_quiet (fail);go_wp2_with fail;go_quiet (fail);go_wp2_with fail;go_loopw [6] (λv wr=>∃i:Nat,i<=13/\v=.int .i64 i/\(∃k,wr=(w.alloc (.cells #[.int .u8 0,.string ⟨#[]⟩,.int .i64 0,.int .i64 0] 61)).drewN k)/\Hid (∀j:Nat,j<i->∀s,gY[j]?=some s->s≠x.S[x.pos])) (λv _=>13 - (intOf v).toNat)
     case atStart=>exact ⟨0,by omega,rfl,by first|exact ⟨_,rfl⟩|exact ⟨_,Km _ _ _⟩|exact ⟨_,Kn _ _ _ _⟩,hide (λj hj=>by omega)⟩
     case round=>
      obtain ⟨i,hi,rfl,⟨k,rfl⟩,HJ⟩:=hrel;by_cases Fc:i<13
      . have g3:(i:Int)<13:=by omega
        obtain ⟨sc,BJ⟩:∃sc,gY[i]?=some sc:=⟨gY[i]'Fc,ah _⟩;have UY:∀h,(ByteArray.mk #[40,41,44,124,58,61,60,62,43,45,42,47,37])[i]'h=sc:=λh=>by
         have:gY[i]?=some ((ByteArray.mk #[40,41,44,124,58,61,60,62,43,45,42,47,37])[i]'h):=by
          rw [ah Fc];rfl
         rw [this] at BJ;exact aS BJ
        by_cases he:sc=x.S[x.pos]
        . have zT:((sc.toNat:Int)==(x.S[x.pos].toNat:Int))=true:=by rw [he];simp
          have hm:x.S[x.pos]∈gY:=by rw [<- he];exact aG BJ
          have HG:=hide (ae HO hm);clear BJ he hm;go_wp2_with fail;go_region;go_wp2_with fail;go_returns;exact ⟨112,_,0,rfl,by rw [(ae HG).2];exact ⟨rfl,rfl⟩,by rw [ae HT,(ae HG).1],by decide,by unfold bZ;decide,bB (bB (bB (bB (fS w _ _).1 (af _) _) (af _) _) (af _) _) (af _) _⟩
        . have zT:((sc.toNat:Int)==(x.S[x.pos].toNat:Int))=false:=by
           rw [aj];intro h';exact he (eK.mp (by omega))
          have HX:Hid (∀j:Nat,j<i+1->∀s,gY[j]?=some s->s≠x.S[x.pos]):=hide (λj hj s hs=>by
           by_cases JJ:j=i
           . subst JJ;rw [BJ] at hs;cases hs;exact he
           . exact ae HJ j (by omega) s hs)
          clear BJ he;go_wp2_with fail;go_roundw
          case rel=>exact ⟨i+1,by omega,by go_num,⟨_,rfl⟩,HX⟩
          case measure=>simp [intOf];omega
      . obtain rfl:i=13:=by omega
        have HG:=hide (ae HN (λhm=>by
         obtain ⟨j,hj⟩:=cm hm;have:j<13:=(ak.mp hj).1;exact ae HJ j this _ hj rfl))
        go_wp2_with fail;go_returns;exact ⟨33,⟨#[]⟩,0,rfl,by rw [(ae HG).2];rfl,by rw [(ae HG).1];rfl,by decide,by unfold bZ;decide,bB (bB (bB (bB (fS w _ _).1 (af _) _) (af _) _) (af _) _) (af _) _⟩
   . have anl:((x.S[x.pos].toNat:Int)==60)=false:=by rw [aj];omega
     by_cases k62:(x.S[x.pos].toNat:Int)=62
     . have e2:((x.S[q].toNat:Int)==61)=false:=by rw [aj];omega
       clear YL k60 anl;go_enter Tryz.func29,Tryz.ntmps29;go_wp2_with fail;go_quiet (fail);go_wp2_with fail;go_quiet (fail);go_wp2_with fail;go_quiet (fail);go_wp2_with fail;go_loopw [6] (λv wr=>∃i:Nat,i<=13/\v=.int .i64 i/\(∃k,wr=(w.alloc (.cells #[.int .u8 0,.string ⟨#[]⟩,.int .i64 0,.int .i64 0] 61)).drewN k)/\Hid (∀j:Nat,j<i->∀s,gY[j]?=some s->s≠x.S[x.pos])) (λv _=>13 - (intOf v).toNat)
       case atStart=>exact ⟨0,by omega,rfl,by first|exact ⟨_,rfl⟩|exact ⟨_,Km _ _ _⟩|exact ⟨_,Kn _ _ _ _⟩,hide (λj hj=>by omega)⟩
       case round=>
        obtain ⟨i,hi,rfl,⟨k,rfl⟩,HJ⟩:=hrel;by_cases Fc:i<13
        . have g3:(i:Int)<13:=by omega
          obtain ⟨sc,BJ⟩:∃sc,gY[i]?=some sc:=⟨gY[i]'Fc,ah _⟩;have UY:∀h,(ByteArray.mk #[40,41,44,124,58,61,60,62,43,45,42,47,37])[i]'h=sc:=λh=>by
           have:gY[i]?=some ((ByteArray.mk #[40,41,44,124,58,61,60,62,43,45,42,47,37])[i]'h):=by
            rw [ah Fc];rfl
           rw [this] at BJ;exact aS BJ
          by_cases he:sc=x.S[x.pos]
          . have zT:((sc.toNat:Int)==(x.S[x.pos].toNat:Int))=true:=by rw [he];simp
            have hm:x.S[x.pos]∈gY:=by rw [<- he];exact aG BJ
            have HG:=hide (ae HO hm);clear BJ he hm;go_wp2_with fail;go_region;go_wp2_with fail;go_returns;exact ⟨112,_,0,rfl,by rw [(ae HG).2];exact ⟨rfl,rfl⟩,by rw [ae HT,(ae HG).1],by decide,by unfold bZ;decide,bB (bB (bB (bB (fS w _ _).1 (af _) _) (af _) _) (af _) _) (af _) _⟩
          . have zT:((sc.toNat:Int)==(x.S[x.pos].toNat:Int))=false:=by
             rw [aj];intro h';exact he (eK.mp (by omega))
            have HX:Hid (∀j:Nat,j<i+1->∀s,gY[j]?=some s->s≠x.S[x.pos]):=hide (λj hj s hs=>by
             by_cases JJ:j=i
             . subst JJ;rw [BJ] at hs;cases hs;exact he
             . exact ae HJ j (by omega) s hs)
            clear BJ he;go_wp2_with fail;go_roundw
            case rel=>exact ⟨i+1,by omega,by go_num,⟨_,rfl⟩,HX⟩
            case measure=>simp [intOf];omega
        . obtain rfl:i=13:=by omega
          have HG:=hide (ae HN (λhm=>by
           obtain ⟨j,hj⟩:=cm hm;have:j<13:=(ak.mp hj).1;exact ae HJ j this _ hj rfl))
          go_wp2_with fail;go_returns;exact ⟨33,⟨#[]⟩,0,rfl,by rw [(ae HG).2];rfl,by rw [(ae HG).1];rfl,by decide,by unfold bZ;decide,bB (bB (bB (bB (fS w _ _).1 (af _) _) (af _) _) (af _) _) (af _) _⟩
     . have atg:((x.S[x.pos].toNat:Int)==62)=false:=by rw [aj];omega
       clear YL k60 k62;go_enter Tryz.func29,Tryz.ntmps29;go_wp2_with fail;go_quiet (fail);go_wp2_with fail;go_quiet (fail);go_wp2_with fail;go_quiet (fail);go_wp2_with fail;go_loopw [6] (λv wr=>∃i:Nat,i<=13/\v=.int .i64 i/\(∃k,wr=(w.alloc (.cells #[.int .u8 0,.string ⟨#[]⟩,.int .i64 0,.int .i64 0] 61)).drewN k)/\Hid (∀j:Nat,j<i->∀s,gY[j]?=some s->s≠x.S[x.pos])) (λv _=>13 - (intOf v).toNat)
       case atStart=>exact ⟨0,by omega,rfl,by first|exact ⟨_,rfl⟩|exact ⟨_,Km _ _ _⟩|exact ⟨_,Kn _ _ _ _⟩,hide (λj hj=>by omega)⟩
       case round=>
        obtain ⟨i,hi,rfl,⟨k,rfl⟩,HJ⟩:=hrel;by_cases Fc:i<13
        . have g3:(i:Int)<13:=by omega
          obtain ⟨sc,BJ⟩:∃sc,gY[i]?=some sc:=⟨gY[i]'Fc,ah _⟩;have UY:∀h,(ByteArray.mk #[40,41,44,124,58,61,60,62,43,45,42,47,37])[i]'h=sc:=λh=>by
           have:gY[i]?=some ((ByteArray.mk #[40,41,44,124,58,61,60,62,43,45,42,47,37])[i]'h):=by
            rw [ah Fc];rfl
           rw [this] at BJ;exact aS BJ
          by_cases he:sc=x.S[x.pos]
          . have zT:((sc.toNat:Int)==(x.S[x.pos].toNat:Int))=true:=by rw [he];simp
            have hm:x.S[x.pos]∈gY:=by rw [<- he];exact aG BJ
            have HG:=hide (ae HO hm);clear BJ he hm;go_wp2_with fail;go_region;go_wp2_with fail;go_returns;exact ⟨112,_,0,rfl,by rw [(ae HG).2];exact ⟨rfl,rfl⟩,by rw [ae HT,(ae HG).1],by decide,by unfold bZ;decide,bB (bB (bB (bB (fS w _ _).1 (af _) _) (af _) _) (af _) _) (af _) _⟩
          . have zT:((sc.toNat:Int)==(x.S[x.pos].toNat:Int))=false:=by
             rw [aj];intro h';exact he (eK.mp (by omega))
            have HX:Hid (∀j:Nat,j<i+1->∀s,gY[j]?=some s->s≠x.S[x.pos]):=hide (λj hj s hs=>by
             by_cases JJ:j=i
             . subst JJ;rw [BJ] at hs;cases hs;exact he
             . exact ae HJ j (by omega) s hs)
            clear BJ he;go_wp2_with fail;go_roundw
            case rel=>exact ⟨i+1,by omega,by go_num,⟨_,rfl⟩,HX⟩
            case measure=>simp [intOf];omega
        . obtain rfl:i=13:=by omega
          have HG:=hide (ae HN (λhm=>by
           obtain ⟨j,hj⟩:=cm hm;have:j<13:=(ak.mp hj).1;exact ae HJ j this _ hj rfl))
          go_wp2_with fail;go_returns;exact ⟨33,⟨#[]⟩,0,rfl,by rw [(ae HG).2];rfl,by rw [(ae HG).1];rfl,by decide,by unfold bZ;decide,bB (bB (bB (bB (fS w _ _).1 (af _) _) (af _) _) (af _) _) (af _) _⟩
 . have g2:¬(q:Int)<x.S.size:=by omega
   go_enter Tryz.func29,Tryz.ntmps29;go_wp2_with fail;go_quiet (fail);go_wp2_with fail;go_quiet (fail);go_wp2_with fail;go_loopw [6] (λv wr=>∃i:Nat,i<=13/\v=.int .i64 i/\(∃k,wr=(w.alloc (.cells #[.int .u8 0,.string ⟨#[]⟩,.int .i64 0,.int .i64 0] 61)).drewN k)/\Hid (∀j:Nat,j<i->∀s,gY[j]?=some s->s≠x.S[x.pos])) (λv _=>13 - (intOf v).toNat)
   case atStart=>exact ⟨0,by omega,rfl,by first|exact ⟨_,rfl⟩|exact ⟨_,Km _ _ _⟩|exact ⟨_,Kn _ _ _ _⟩,hide (λj hj=>by omega)⟩
   case round=>
    obtain ⟨i,hi,rfl,⟨k,rfl⟩,HJ⟩:=hrel;by_cases Fc:i<13
    . have g3:(i:Int)<13:=by omega
      obtain ⟨sc,BJ⟩:∃sc,gY[i]?=some sc:=⟨gY[i]'Fc,ah _⟩;have UY:∀h,(ByteArray.mk #[40,41,44,124,58,61,60,62,43,45,42,47,37])[i]'h=sc:=λh=>by
       have:gY[i]?=some ((ByteArray.mk #[40,41,44,124,58,61,60,62,43,45,42,47,37])[i]'h):=by
        rw [ah Fc];rfl
       rw [this] at BJ;exact aS BJ
      by_cases he:sc=x.S[x.pos]
      . have zT:((sc.toNat:Int)==(x.S[x.pos].toNat:Int))=true:=by rw [he];simp
        have hm:x.S[x.pos]∈gY:=by rw [<- he];exact aG BJ
        have HG:=hide (ae HO hm);clear BJ he hm;go_wp2_with fail;go_region;go_wp2_with fail;go_returns;exact ⟨112,_,0,rfl,by rw [(ae HG).2];exact ⟨rfl,rfl⟩,by rw [ae HT,(ae HG).1],by decide,by unfold bZ;decide,bB (bB (bB (bB (fS w _ _).1 (af _) _) (af _) _) (af _) _) (af _) _⟩
      . have zT:((sc.toNat:Int)==(x.S[x.pos].toNat:Int))=false:=by
         rw [aj];intro h';exact he (eK.mp (by omega))
        have HX:Hid (∀j:Nat,j<i+1->∀s,gY[j]?=some s->s≠x.S[x.pos]):=hide (λj hj s hs=>by
         by_cases JJ:j=i
         . subst JJ;rw [BJ] at hs;cases hs;exact he
         . exact ae HJ j (by omega) s hs)
        clear BJ he;go_wp2_with fail;go_roundw
        case rel=>exact ⟨i+1,by omega,by go_num,⟨_,rfl⟩,HX⟩
        case measure=>simp [intOf];omega
    . obtain rfl:i=13:=by omega
      have HG:=hide (ae HN (λhm=>by
       obtain ⟨j,hj⟩:=cm hm;have:j<13:=(ak.mp hj).1;exact ae HJ j this _ hj rfl))
      go_wp2_with fail;go_returns;exact ⟨33,⟨#[]⟩,0,rfl,by rw [(ae HG).2];rfl,by rw [(ae HG).1];rfl,by decide,by unfold bZ;decide,bB (bB (bB (bB (fS w _ _).1 (af _) _) (af _) _) (af _) _) (af _) _⟩
theorem Wk (p:Nat)(x:eT)(w:World)(h:qw w p x)(h1:x.pos<x.S.size)(h3:x.S.size<=300) :
 Calls Tryz.prog 29 #[.pointer (some ⟨p,0,none⟩)] w λr w'=>
 ∃k t n,r=.returned (G6 k t x.pos n)/\lN k t n (rm x.S x.pos h1)/\t.size=ej x.S x.pos h1/\k<256/\bZ n/\Below w.heap.size w w':=by
 by_cases hA:x.pos+1<x.S.size
 . by_cases hc:(x.S[x.pos].toNat=60/\(x.S[x.pos+1].toNat=62\/x.S[x.pos+1].toNat=61))\/(x.S[x.pos].toNat=62/\x.S[x.pos+1].toNat=61)
   . exact Wj p x w h h1 h3 hA hc
   . exact Fb p x w h h1 h3 (λ_=>hc)
 . exact Fb p x w h h1 h3 (λh2=>absurd h2 hA)
end Go.Proofs.YteniahoehoncjaaGreatDoor
