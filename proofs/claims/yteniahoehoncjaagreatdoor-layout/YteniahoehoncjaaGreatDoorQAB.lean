import Derived.Test.YteniahoehoncjaaGreatDoorProg
import Derived.Test.YteniahoehoncjaaGreatDoorQAA
import Derived.WalkLawsBesides
set_option maxHeartbeats 99999999
set_option maxRecDepth 100000
namespace Go.Proofs.YteniahoehoncjaaGreatDoor
open Go.RowKit
theorem lC (a b:ByteArray):(a.toList==b.toList)=kh a b:=by
 rw [lQ,bz,iQ,cZ,cZ];exact ⟨λh=>by cases a;cases b;simp at h;rw [h],λh=>by rw [h]⟩
theorem dx (a:ByteArray)(l:List UInt8):(a.toList==l)=kh a (bs l):=by
 rw [<- lC,cZ (bs l)];rfl
structure eT where
 S:ByteArray
 pos:Nat
 tk:Nat
 tt:ByteArray
 tp:Nat
 tn:Int
 e:Nat
 bad:Nat
 deep:Nat
 word:Value
 GZ:Value
 G3:Value
 G4:Value
 G5:Value
 names:Value
 kinds:Value
 rows:Value
 cond:Value
 dU:Value
 nodes:Value
def gX (x:eT):Array Value:=
 #[.string x.S,.int .i64 x.pos,.int .u8 x.tk,.string x.tt,.int .i64 x.tp,.int .i64 x.tn,.int .i64 x.e,.int .i64 x.bad,.int .i64 x.deep,
  x.word,x.GZ,x.G3,x.G4,x.G5,x.names,x.kinds,x.rows,x.cond,x.dU,x.nodes]
def qw (w:World)(p:Nat)(x:eT):Prop:=w.heap[p]?=some (.cells (gX x) 63 (0,0))
theorem qw.cell {w:World}{p:Nat}{x:eT}(h:qw w p x)(i:Nat):w.cell? ⟨p,i,none⟩=(gX x)[i]?:=by
 unfold qw at h;simp [World.cell?,h]
theorem qw.fz {w:World}{p:Nat}{x:eT}(h:qw w p x)(i:Nat):w.frozen? ⟨p,i,none⟩=false:=by
 unfold qw at h;simp [World.frozen?,h]
theorem qw.lt {w:World}{p:Nat}{x:eT}(h:qw w p x):p<w.heap.size:=by
 have:=h.cell 0;exact aX _ _ (this.trans rfl)
theorem qw.eo {w w':World}{p:Nat}{x:eT}(h:qw w p x)(hb:w'.heap[p]?=w.heap[p]?):qw w' p x:=hb.trans h
theorem qw.set {w:World}{p:Nat}{x y:eT}(h:qw w p x)(i:Nat)(v:Value)(he:(gX x).setIfInBounds i v=gX y):qw (w.setCell ⟨p,i,none⟩ v) p y:=by
 unfold qw;rw [<- he];exact aO w p i _ _ v h
theorem mH (c:Nat)(w:World):Calls Tryz.prog 25 #[.int .u8 c] w λe w'=>e=.returned (.bool (jU c))/\w=w':=by
 unfold jU;by_cases h1:(97:Int)<=c
 . by_cases h2:(c:Int)<=122
   . go_enter Tryz.func25,Tryz.ntmps25
     go_wp2;go_ret;have sT:97<=c:=by omega
     have Bv:c<=122:=by omega
     simp [sT,Bv]
   . go_enter Tryz.func25,Tryz.ntmps25
     go_wp2;go_ret;have sT:97<=c:=by omega
     have Bv:¬c<=122:=by omega
     simp [sT,Bv]
 . go_enter Tryz.func25,Tryz.ntmps25
   go_wp2;go_ret;have sT:¬97<=c:=by omega
   simp [sT]
theorem pD (c:Nat)(w:World):Calls Tryz.prog 26 #[.int .u8 c] w λe w'=>e=.returned (.bool (lY c))/\w=w':=by
 unfold lY;by_cases h1:(48:Int)<=c
 . by_cases h2:(c:Int)<=57
   . go_enter Tryz.func26,Tryz.ntmps26
     go_wp2;go_ret;have sT:48<=c:=by omega
     have Bv:c<=57:=by omega
     simp [sT,Bv]
   . go_enter Tryz.func26,Tryz.ntmps26
     go_wp2;go_ret;have sT:48<=c:=by omega
     have Bv:¬c<=57:=by omega
     simp [sT,Bv]
 . go_enter Tryz.func26,Tryz.ntmps26
   go_wp2;go_ret;have sT:¬48<=c:=by omega
   simp [sT]
theorem VA (p:Nat)(x:eT)(w:World)(h:qw w p x)(e b:Nat):Calls Tryz.prog 19 #[.pointer (some ⟨p,0,none⟩),.int .i64 e,.int .i64 b] w λr w'=>
 r=.returned (.tuple #[])/\w'=(if x.e=0 then (w.setCell ⟨p,6,none⟩ (.int .i64 e)).setCell ⟨p,7,none⟩ (.int .i64 b) else w):=by
 have c6:w.cell? ⟨p,6,none⟩=some (.int .i64 x.e):=h.cell 6;have c7:w.cell? ⟨p,7,none⟩=some (.int .i64 x.bad):=h.cell 7;have f6:=h.fz 6;have f7:=h.fz 7;by_cases he:x.e=0
 . have zT:((x.e:Int)==0)=true:=by rw [bz];omega
   rw [aH he];go_enter Tryz.func19,Tryz.ntmps19;go_wp2;go_end0;exact ⟨rfl,rfl⟩
 . have zT:((x.e:Int)==0)=false:=by rw [aj];omega
   rw [aA he];go_enter Tryz.func19,Tryz.ntmps19;go_wp2;go_end0;exact ⟨rfl,rfl⟩
def UN (x:eT)(t:ByteArray):Bool:=decide (x.e=0)&&(decide (x.tk=119)||decide (x.tk=112))&&kh x.tt t
theorem ade (p:Nat)(x:eT)(t:ByteArray)(w:World)(h:qw w p x):Calls Tryz.prog 30 #[.pointer (some ⟨p,0,none⟩),.string t] w λr w'=>
 r=.returned (.bool (UN x t))/\w=w':=by
 have c6:w.cell? ⟨p,6,none⟩=some (.int .i64 x.e):=h.cell 6;have c2:w.cell? ⟨p,2,none⟩=some (.int .u8 x.tk):=h.cell 2;have c3:w.cell? ⟨p,3,none⟩=some (.string x.tt):=h.cell 3;go_enter Tryz.func30,Tryz.ntmps30;go_wp2
 . rename_i h1 h2
   go_ret;refine ⟨?_,rfl⟩;have e2:(x.tk=119\/x.tk=112):=by omega
   have:UN x t=(x.tt.toList==t.toList):=by unfold UN;rw [lC];rcases e2 with e2|e2<;>simp [h1,e2]
   rw [this];rfl
 . rename_i h1 h2 h3
   go_ret;refine ⟨?_,rfl⟩;have:UN x t=(x.tt.toList==t.toList):=by unfold UN;rw [lC];simp [h1,show x.tk=112 from by omega]
   rw [this];rfl
 . rename_i h1 h2 h3
   go_ret;refine ⟨?_,rfl⟩;have:UN x t=false:=by unfold UN;simp [show ¬x.tk=112 from by omega,show ¬x.tk=119 from by omega]
   rw [this];rfl
 . rename_i h1
   go_ret;refine ⟨?_,rfl⟩;have:UN x t=false:=by unfold UN;simp [h1]
   rw [this];rfl
def Laid (w:World):Prop:=∀i s,(bS.take 27)[i]?=some s->w.cell? ⟨0,i,none⟩=some (.string s)
theorem VB {l:List ByteArray}{t:ByteArray}:∀(i:Nat),(∀j s,j<i->l[j]?=some s->kh s t=false)->(l.take i).any (kh t)=false:=by
 intro i h;rw [kJ];intro s hs;obtain ⟨j,hj⟩:=cm hs;have hl:j<i:=by
  have:=(ak.mp hj).1;simp at this;omega
 have h1:=h j s hl (by rw [fy] at hj;simpa [hl] using hj);intro he;rw [iQ] at he;subst he;rw [fU] at h1;exact h1 (iQ.mpr rfl)
theorem LB (t:ByteArray)(w:World)(hl:Laid w):Calls Tryz.prog 43 #[.string t] w λr w'=>r=.returned (.bool (bS.any (kh t)))/\w=w':=by
 have HL:=hide hl;clear hl;go_enter Tryz.func43,Tryz.ntmps43;go_wp2;go_loopw [3] (λc wr=>∃i:Nat,i<=27/\c=.int .i64 i/\wr=w/\Hid (∀j s,j<i->bS[j]?=some s->kh s t=false)) (λc _=>27 - (intOf c).toNat)
 case atStart=>exact ⟨0,by omega,rfl,rfl,hide (λj s hj _=>by omega)⟩
 case round=>
  obtain ⟨i,hi,rfl,rfl,HN⟩:=hrel;by_cases cF:i<27
  . have jI:(i:Int)<27:=by omega
    obtain ⟨s,hs⟩:∃s,bS[i]?=some s:=⟨bS[i]'(by show i<28;omega),ah _⟩;have hc:=ae HL i s (by rw [fy,aH cF];exact hs);have HS:=hide hs;clear hs;by_cases he:kh s t=true
    . have zT:(s.toList==t.toList)=true:=by rw [lC];exact he
      go_wp2;go_ret;refine ⟨?_,rfl⟩;have:bS.any (kh t)=true:=by
       rw [np];exact ⟨s,aG (ae HS),by rw [iQ] at he ⊢;exact he.symm⟩
      rw [this];rfl
    . have OJ:kh s t=false:=by simpa using he
      have zT:(s.toList==t.toList)=false:=by rw [lC];exact OJ
      go_wp2;go_roundw
      case rel=>
       refine ⟨i+1,by omega,by go_num,by first|rfl|trivial,hide ?_⟩;intro j s' hj VC;by_cases JJ:j=i
       . subst JJ
         have:=ae HS;rw [this] at VC
         cases VC
         exact OJ
       . exact ae HN j s' (by omega) VC
      case measure=>simp [intOf];omega
  . obtain rfl:i=27:=by omega
    go_wp2;go_ret;refine ⟨?_,rfl⟩;have h1:=VB 27 (ae HN);have h2:bS=bS.take 27++[bs [109,97,120]]:=rfl;have:bS.any (kh t)=(t.toList==[109,97,120]):=by
     rw [h2,List.any_append,h1,dx];simp
    rw [this];rfl
theorem yM (l:List UInt8)(c:UInt8):lM (l++[c])=lM l*10+(c.toNat - 48):=by simp [lM]
theorem VD (l k:List UInt8):lM l<=lM (l++k):=by
 induction k generalizing l with
 |nil=>simp
 |cons c k ih=>
   have h:=ih (l++[c]);rw [yM] at h;have e:l++c::k=l++[c]++k:=by simp
   rw [e];omega
def zY (t:ByteArray):Option Nat:=if 19<t.size\/9223372036854775807<lM t.data.toList then none else some (lM t.data.toList)
def VE (t:ByteArray):Value:=match zY t with
 |some n=>.tuple #[.int .i64 n,.bool true]
 |none=>.tuple #[.int .i64 0,.bool false]
theorem Ir {t:ByteArray}{n:Nat}(h:zY t=some n):VE t=.tuple #[.int .i64 n,.bool true]:=by unfold VE;rw [h]
theorem Bw {t:ByteArray}(h:zY t=none):VE t=.tuple #[.int .i64 0,.bool false]:=by unfold VE;rw [h]
theorem eU (t:ByteArray):t.data.toList.length=t.size:=dD
theorem Iu (t:ByteArray)(i:Nat)(h:i<t.size):t.data.toList.take (i+1)=t.data.toList.take i++[t[i]]:=by
 rw [eQ (by rw [eU];omega)];rfl
theorem OL (t:ByteArray)(w:World)(hd:∀i (h:i<t.size),cD t[i]=true):Calls Tryz.prog 44 #[.string t] w λr w'=>
 r=.returned (VE t)/\w=w':=by
 by_cases h19:19<t.size
 . have adf:(19:Int)<t.size:=by omega
   have hn:zY t=none:=by unfold zY;rw [aH (.inl h19)]
   rw [Bw hn];go_enter Tryz.func44,Tryz.ntmps44;go_wp2;go_ret2;exact ⟨rfl,rfl⟩
 have adf:¬(19:Int)<t.size:=by omega
 have HD:=hide hd;clear hd;go_enter Tryz.func44,Tryz.ntmps44;go_wp2;go_loopw [4,5] (λv c wr=>∃i n:Nat,i<=t.size/\c=.int .i64 i/\v=.int .i64 n/\n<=9223372036854775807/\wr=w/\Hid (n=lM (t.data.toList.take i))) (λ_ c _=>t.size - (intOf c).toNat)
 case atStart=>exact ⟨0,0,by omega,rfl,rfl,by omega,rfl,hide rfl⟩
 case round=>
  obtain ⟨i,n,hi,rfl,rfl,hn,rfl,HN⟩:=hrel;by_cases cF:i<t.size
  . have jI:(i:Int)<t.size:=by omega
    have hdi:=ae HD i cF;obtain ⟨d,hdd⟩:∃d:Nat,d=t[i].toNat - 48:=⟨_,rfl⟩;have hd9:d<=9/\t[i].toNat=48+d:=by
     unfold cD lY at hdi;rw [dj,cY,cY] at hdi;omega
    have HD9:=hide hd9;clear hd9 hdd hdi;go_wp2
    . rename_i hb
      go_ret2;refine ⟨?_,rfl⟩;have h9:=ae HD9;have hw:=Iu t i cF;have h1:=yM (t.data.toList.take i) t[i];rw [<- hw,<- ae HN] at h1;have h2:=VD (t.data.toList.take (i+1)) (t.data.toList.drop (i+1));rw [ml] at h2;have:zY t=none:=by
       unfold zY;rw [aH (.inr (by omega))]
      rw [Bw this];rfl
    . rename_i hb
      have h9:=ae HD9;have hw:=Iu t i cF;have h1:=yM (t.data.toList.take i) t[i];rw [<- hw,<- ae HN] at h1;go_roundw
      case rel=>
       refine ⟨i+1,n*10+d,by omega,by go_num,aU (Value.int IntKind.i64) (by omega),by omega,by first|rfl|trivial,hide ?_⟩;omega
      case measure=>simp [intOf];omega
  . obtain rfl:i=t.size:=by omega
    go_wp2;go_ret2;refine ⟨?_,rfl⟩;have:zY t=some n:=by
     have e:=ae HN;rw [aP (by rw [eU];omega)] at e;unfold zY;rw [<- e,aA (by omega)]
    rw [Ir this];rfl
end Go.Proofs.YteniahoehoncjaaGreatDoor
