import Derived.Test.YteniahoehoncjaaGreatDoorQAE
import Derived.Test.YteniahoehoncjaaGreatDoorQSH
set_option maxHeartbeats 99999999
set_option maxRecDepth 100000
namespace Go.Proofs.YteniahoehoncjaaGreatDoor
open Go.RowKit
def ei:List ByteArray:=[bs [60,62],bs [60,61],bs [62,61],bs [61],bs [60],bs [62],bs [40],bs [41],bs [44],bs [124],bs [58],bs [43],bs [45],bs [42],bs [47],bs [37]]
def uH:List ByteArray:=[bs [],bs [],bs [],bs [],bs []]++ei++bS
def IX (w:World):Prop:=∀i s,uH[i]?=some s->w.cell? ⟨2,i,none⟩=some (.string s)
theorem IX.below {w w':World}{B:Nat}(h:IX w)(hb:Below B w w')(hB:2<B):IX w':=λi s hs=>(hb.cell (p:=⟨2,i,none⟩) hB).trans (h i s hs)
def sL (l:List ByteArray)(s:ByteArray):Nat:=l.findIdx (kh s)
def aB:Tk->Nat
 |.stop=>0
 |.bad=>1
 |.name _=>2
 |.num _=>3
 |.str _=>4
 |.sign s=>5+sL ei s
 |.word s=>21+sL bS s
def bn:Tk->ByteArray
 |.name s=>s
 |.str s=>s
 |_=>⟨#[]⟩
def dt:Tk->Nat
 |.num n=>n
 |_=>0
def Rh (k:Tk)(pl:Nat):List Value:=[.int .i64 (aB k),.int .i64 pl,.string (bn k),.int .i64 (dt k)]
def iZ (k:Tk)(pl:Nat):Value:=.agg #[.int .i64 (aB k),.int .i64 pl,.string (bn k),.int .i64 (dt k)]
def ya (r:Tk×Nat):Nat:=if r.1.ends then 0 else r.2
theorem oi (s:ByteArray):s.data.toList.length=s.size:=by rw [dD];rfl
theorem Mj (s:ByteArray)(i:Nat)(h:i<s.size):s.data.toList[i]?=some s[i]:=by
 rw [ah (by rw [oi];exact h)];rfl
theorem IY (T:ByteArray)(f:UInt8->Bool):∀(n i:Nat),T.size - i=n->i<=T.size->aM T f i+((T.data.toList.drop i).dropWhile f).length=T.size:=by
 intro n
 induction n with
 |zero=>
   intro i hn hi;rw [lx T f i (by omega),oW (by rw [oi];omega)];simp;omega
 |succ n ih=>
   intro i hn hi;have cF:i<T.size:=by omega
   have hd:T.data.toList.drop i=T[i]::T.data.toList.drop (i+1):=by
    rw [dA (by rw [oi];exact cF)];rfl
   rw [hd,List.dropWhile_cons]
   cases hb:f T[i] with
   |true=>
     rw [gU T f i cF hb];simp only [if_true];exact ih (i+1) (by omega) (by omega)
   |false=>
     rw [iR T f i cF hb];simp;omega
theorem Pb (T:ByteArray)(w:World)(hT:T.size<=300):Calls Tryz.prog 52 #[.string T] w λe w'=>e=.returned (.int .i64 (aM T bU 0))/\w=w':=by
 have DI:=IY T bU _ 0 rfl (aN _);have hfe:Lib.trimLeftB T.data.toList 32=T.data.toList.dropWhile bU:=by
  unfold Lib.trimLeftB;congr 1
  funext c;unfold bU;rw [lQ,bz,cY];exact ⟨λh=>by rw [h];rfl,λh=>eK.mp h⟩
 rw [List.drop_zero,<- hfe] at DI;obtain ⟨n,hn⟩:∃n,n=(Lib.trimLeftB T.data.toList 32).length:=⟨_,rfl⟩;have Ip:(ByteArray.mk (Lib.trimLeftB T.data.toList 32).toArray).size=n:=by rw [hn];simp [ByteArray.size]
 rw [<- hn] at DI;clear hfe;go_enter Tryz.func52,Tryz.ntmps52;go_wp2_with (go_at_call 68;refine (Tryz.strings_TrimLeft_one T 32 (by decide) _).mono ?_;rintro r' w' ⟨rfl,rfl⟩);go_ret;refine ⟨?_,rfl⟩;have e:((T.size:Int) - (Lib.trimLeftB T.data.toList 32).length)=(aM T bU 0:Nat):=by rw [<- hn];omega
 show Ending.returned (Value.int .i64 ((T.size:Int) - (Lib.trimLeftB T.data.toList 32).length))=_;rw [e]
theorem Mk {l:List UInt8}{s:ByteArray}(h:s.data.toList <+: l):(ByteArray.mk ⟨l⟩).extract 0 s.size=s:=by
 apply sR;apply iK.mp;rw [fJ,jd];obtain ⟨t,rfl⟩:=h;have hs:s.size=s.data.toList.length:=(oi s).symm;rw [fM,hs];simp
theorem ad3 {l:List UInt8}{s:ByteArray}(h:Lib.hasPrefix l s.data.toList=true):s.data.toList <+: l:=List.isPrefixOf_iff_prefix.mp h
theorem Ff {l:List UInt8}{k:Nat}{s:ByteArray}(hk:ei[k]?=some s)(hp:Lib.hasPrefix l s.data.toList=true)(hn:∀j s',j<k->ei[j]?=some s'->Lib.hasPrefix l s'.data.toList=false)(h:0<(ByteArray.mk ⟨l⟩).size) :
 ej ⟨⟨l⟩⟩ 0 h=s.size/\(ByteArray.mk ⟨l⟩).extract 0 s.size=s/\sL ei s=k:=by
 have cF:k<16:=(ak.mp hk).1;refine ⟨?_,Mk (ad3 hp),?_⟩
 . cases l with
   |nil=>exact absurd h (by decide)
   |cons a r=>
     have n0:=λhj=>hn 0 _ hj rfl;have n1:=λhj=>hn 1 _ hj rfl;have n2:=λhj=>hn 2 _ hj rfl;clear hn;have hc:k=0\/k=1\/k=2\/k=3\/k=4\/k=5\/k=6\/k=7\/k=8\/k=9\/k=10\/k=11\/k=12\/k=13\/k=14\/k=15:=by omega
     cases r with
     |nil=>
       rcases hc with rfl|rfl|rfl|rfl|rfl|rfl|rfl|rfl|rfl|rfl|rfl|rfl|rfl|rfl|rfl|rfl <;>
        (cases hk;simp [Lib.hasPrefix,bs,List.isPrefixOf] at hp)<;>(subst hp;rfl)
     |cons b r=>
       have LN:ej ⟨⟨a::b::r⟩⟩ 0 h=(if (a.toNat=60/\(b.toNat=62\/b.toNat=61))\/(a.toNat=62/\b.toNat=61) then 2 else if a.toNat∈[40,41,44,124,58,61,60,62,43,45,42,47,37] then 1 else 0):=rfl;rw [LN];clear LN;by_cases h4:k=4
       . subst h4
         cases hk
         have m0:=n0 (by omega);have m1:=n1 (by omega);simp [Lib.hasPrefix,bs,List.isPrefixOf] at hp m0 m1;subst hp;have b0:¬b.toNat=62:=λe=>m0 rfl (eK.mp e).symm;have b1:¬b.toNat=61:=λe=>m1 rfl (eK.mp e).symm;simp [b0,b1];rfl
       . by_cases h5:k=5
         . subst h5
           cases hk
           have m2:=n2 (by omega);simp [Lib.hasPrefix,bs,List.isPrefixOf] at hp m2;subst hp;have b2:¬b.toNat=61:=λe=>m2 rfl (eK.mp e).symm;simp [b2];rfl
         . clear n0 n1 n2
           have JI:k=0\/k=1\/k=2\/k=3\/k=6\/k=7\/k=8\/k=9\/k=10\/k=11\/k=12\/k=13\/k=14\/k=15:=by omega
           clear hc h4 h5 cF;rcases JI with rfl|rfl|rfl|rfl|rfl|rfl|rfl|rfl|rfl|rfl|rfl|rfl|rfl|rfl <;>
            (cases hk;simp [Lib.hasPrefix,bs,List.isPrefixOf] at hp)<;>first|(obtain ⟨h1,h2⟩:=hp;subst h1;subst h2;rfl)|(subst hp;rfl)
 . have hc:k=0\/k=1\/k=2\/k=3\/k=4\/k=5\/k=6\/k=7\/k=8\/k=9\/k=10\/k=11\/k=12\/k=13\/k=14\/k=15:=by omega
   rcases hc with rfl|rfl|rfl|rfl|rfl|rfl|rfl|rfl|rfl|rfl|rfl|rfl|rfl|rfl|rfl|rfl<;>(cases hk;decide)
theorem IZ {l:List UInt8}(hn:∀(j:Nat) (s':ByteArray),ei[j]?=some s'->Lib.hasPrefix l s'.data.toList=false)(h:0<(ByteArray.mk ⟨l⟩).size):ej ⟨⟨l⟩⟩ 0 h=0:=by
 cases l with
 |nil=>exact absurd h (by decide)
 |cons a r=>
   have one:∀(j:Nat) (c:UInt8),ei[j]?=some (bs [c])->¬a.toNat=c.toNat:=λj c hj e=>by
    have:=hn j _ hj;have e':a=c:=eK.mp e;subst e';simp [Lib.hasPrefix,bs,List.isPrefixOf] at this
   have g3:=one 3 61 rfl;have g4:=one 4 60 rfl;have g5:=one 5 62 rfl;have g6:=one 6 40 rfl;have g7:=one 7 41 rfl;have g8:=one 8 44 rfl;have g9:=one 9 124 rfl;have g10:=one 10 58 rfl;have g11:=one 11 43 rfl;have g12:=one 12 45 rfl;have g13:=one 13 42 rfl;have g14:=one 14 47 rfl;have g15:=one 15 37 rfl;clear hn one;have h60:(60:UInt8).toNat=60:=rfl;have h62:(62:UInt8).toNat=62:=rfl;have hs:∀d,(if (a.toNat=60/\(d=62\/d=61))\/(a.toNat=62/\d=61) then 2 else if a.toNat∈[40,41,44,124,58,61,60,62,43,45,42,47,37] then 1 else 0)=0:=by
    intro d;rw [aA (by rintro (⟨h1,_⟩|⟨h1,_⟩);exact g4 h1;exact g5 h1),aA];intro hm;simp only [List.mem_cons,List.mem_nil_iff,or_false] at hm;rcases hm with hm|hm|hm|hm|hm|hm|hm|hm|hm|hm|hm|hm|hm
    . exact g6 hm
    . exact g7 hm
    . exact g8 hm
    . exact g9 hm
    . exact g10 hm
    . exact g3 hm
    . exact g4 hm
    . exact g5 hm
    . exact g11 hm
    . exact g12 hm
    . exact g13 hm
    . exact g14 hm
    . exact g15 hm
   cases r with
   |nil=>exact hs 0
   |cons b r=>exact hs b.toNat
def mV (T:ByteArray)(h:0<T.size):Tk×Nat:=if ej T 0 h=0 then (.bad,0) else (.sign (T.extract 0 (ej T 0 h)),ej T 0 h)
theorem Fg (k:Nat)(h1:5<=k)(h2:k<=20):uH[k]?=ei[k - 5]?:=by
 have hc:k=5\/k=6\/k=7\/k=8\/k=9\/k=10\/k=11\/k=12\/k=13\/k=14\/k=15\/k=16\/k=17\/k=18\/k=19\/k=20:=by omega
 rcases hc with rfl|rfl|rfl|rfl|rfl|rfl|rfl|rfl|rfl|rfl|rfl|rfl|rfl|rfl|rfl|rfl<;>rfl
theorem Wm {k:Nat}{s:ByteArray}(h:ei[k]?=some s):0<s.size:=by
 have cF:k<16:=(ak.mp h).1;have hc:k=0\/k=1\/k=2\/k=3\/k=4\/k=5\/k=6\/k=7\/k=8\/k=9\/k=10\/k=11\/k=12\/k=13\/k=14\/k=15:=by omega
 rcases hc with rfl|rfl|rfl|rfl|rfl|rfl|rfl|rfl|rfl|rfl|rfl|rfl|rfl|rfl|rfl|rfl<;>(cases h;decide)
theorem Hk (l:List UInt8)(w:World)(h:0<(ByteArray.mk ⟨l⟩).size)(hs:IX w)(hw:2<w.heap.size):Calls Tryz.prog 74 #[.string ⟨⟨l⟩⟩] w λe w'=>
 e=.returned (.tuple #[iZ (mV ⟨⟨l⟩⟩ h).1 0,.int .i64 (ya (mV ⟨⟨l⟩⟩ h))])/\Below w.heap.size w w':=by
 have HS:=hide hs;clear hs;go_enter Tryz.func74,Tryz.ntmps74;go_wp2_with fail;go_loopw [4] (λc wr=>∃k:Nat,5<=k/\k<=21/\c=.int .i64 k/\wr=w.alloc (.cells #[.int .i64 0,.int .i64 0,.string ⟨#[]⟩,.int .i64 0] 102)/\Hid (∀(j:Nat) (s':ByteArray),j<k - 5->ei[j]?=some s'->Lib.hasPrefix l s'.data.toList=false)) (λc _=>21 - (intOf c).toNat)
 case atStart=>exact ⟨5,by omega,by omega,rfl,rfl,hide (λj s' hj=>by omega)⟩
 case round=>
  obtain ⟨k,nN,nQ,rfl,rfl,HN⟩:=hrel;by_cases hk:k<=20
  . have QS:(k:Int)<=20:=by omega
    obtain ⟨s,Z7⟩:∃s,uH[k]?=some s:=⟨_,ah (show k<uH.length from by show k<49;omega)⟩;have hcell:(w.alloc (.cells #[.int .i64 0,.int .i64 0,.string ⟨#[]⟩,.int .i64 0] 102)).cell? ⟨2,k,none⟩=some (.string s):=(((ag w.heap.size w).alloc (af _) _).cell (p:=⟨2,k,none⟩) hw).trans (ae HS k s Z7)
    cases hp:Lib.hasPrefix l s.data.toList
    . go_wp2_with (go_at_call 103;refine (Tryz.strings_HasPrefix _ _ _).mono ?_;rintro r' w' ⟨rfl,rfl⟩)
      refine ⟨⟨k+1,by omega,by omega,by go_num,trivial,hide (λj s' hj hsj=>?_)⟩,by simp [intOf];omega⟩;by_cases YB:j<k - 5
      . exact ae HN j s' YB hsj
      . have e:j=k - 5:=by omega
        rw [e,<- Fg k nN hk,Z7] at hsj
        cases hsj
        exact hp
    . have Ko:ei[k - 5]?=some s:=(Fg k nN hk).symm.trans Z7
      obtain ⟨f1,f2,f3⟩:=Ff Ko hp (ae HN) h;have hlen:0<s.size:=Wm Ko;have yb:mV ⟨⟨l⟩⟩ h=(.sign s,s.size):=by
       unfold mV;rw [aA (by omega),f1,f2]
      have HR:=hide yb;have HF:=hide f3;clear yb f1 f2 f3 Ko;go_wp2_with (go_at_call 103;refine (Tryz.strings_HasPrefix _ _ _).mono ?_;rintro r' w' ⟨rfl,rfl⟩);have anp:(w.alloc (.cells #[.int .i64 k,.int .i64 0,.string ⟨#[]⟩,.int .i64 0] 102)).cell? ⟨2,k,none⟩=some (.string s):=(((ag w.heap.size w).alloc (af _) _).cell (p:=⟨2,k,none⟩) hw).trans (ae HS k s Z7);go_region
      all_goals
       (try go_wp2_with fail)
       (try simp only [Exit.inBlock,Exit.then])
       refine ay (v:=.tuple #[.agg #[.int .i64 k,.int .i64 0,.string ⟨#[]⟩,.int .i64 0],.int .i64 s.size]) (by simp [results,Tryz.results74,go_sem];try rfl) rfl ?_;refine ⟨?_,aJ ((ag _ _).alloc (af _) _)⟩;rw [ae HR];have e:aB (.sign s)=k:=by
        show 5+sL ei s=k;rw [ae HF];omega
       show _=Ending.returned (.tuple #[.agg #[.int .i64 (aB (.sign s)),.int .i64 0,.string ⟨#[]⟩,.int .i64 0],.int .i64 s.size]);rw [e]
  . have QS:¬(k:Int)<=20:=by omega
    have tq:k=21:=by omega
    have yb:mV ⟨⟨l⟩⟩ h=(.bad,0):=by
     unfold mV;rw [aH (IZ (λj s' hj=>ae HN j s' (by have:=(ak.mp hj).1;have e:ei.length=16:=rfl;omega) hj) h)]
    have HR:=hide yb;clear yb;go_wp2_with fail
    (try simp only [Exit.inBlock,Exit.then])
    refine ay (v:=.tuple #[.agg #[.int .i64 1,.int .i64 0,.string ⟨#[]⟩,.int .i64 0],.int .i64 0]) (by simp [results,Tryz.results74,go_sem];try rfl) rfl ?_;refine ⟨?_,(ag _ _).alloc (af _) _⟩;rw [ae HR];rfl
def oc (T:ByteArray):Tk×Nat:=if 8<aM T ct 0 then (.bad,0) else if bS.any (kh (T.extract 0 (aM T ct 0))) then (.word (T.extract 0 (aM T ct 0)),aM T ct 0) else (.name (T.extract 0 (aM T ct 0)),aM T ct 0)
theorem Pc (k:Nat)(h1:21<=k)(h2:k<=48):uH[k]?=bS[k - 21]?:=by
 have hc:k=21\/k=22\/k=23\/k=24\/k=25\/k=26\/k=27\/k=28\/k=29\/k=30\/k=31\/k=32\/k=33\/k=34\/k=35\/k=36\/k=37\/k=38\/k=39\/k=40\/k=41\/k=42\/k=43\/k=44\/k=45\/k=46\/k=47\/k=48:=by omega
 rcases hc with rfl|rfl|rfl|rfl|rfl|rfl|rfl|rfl|rfl|rfl|rfl|rfl|rfl|rfl|rfl|rfl|rfl|rfl|rfl|rfl|rfl|rfl|rfl|rfl|rfl|rfl|rfl|rfl<;>rfl
theorem SQ {l:List ByteArray}{k:Nat}{s t:ByteArray}(hk:l[k]?=some s)(he:kh s t=true)(hn:∀(j:Nat) (s':ByteArray),j<k->l[j]?=some s'->kh s' t=false):sL l t=k:=by
 have cF:k<l.length:=(ak.mp hk).1;have iP:=iQ.mp he;unfold sL;rw [List.findIdx_eq cF];have hg:l[k]=s:=(ak.mp hk).2;refine ⟨by rw [hg,iQ];exact iP.symm,λj hj=>?_⟩;have:=hn j l[j] hj (ah (by omega));rw [fU,ne_eq,iQ] at this ⊢;exact λe=>this e.symm
theorem ad5 {l:List ByteArray}{k:Nat}{s t:ByteArray}(hk:l[k]?=some s)(he:kh s t=true):l.any (kh t)=true:=by
 rw [np];exact ⟨s,aG hk,by rw [iQ] at he ⊢;exact he.symm⟩
theorem Z8 {l:List ByteArray}{t:ByteArray}(hn:∀(j:Nat) (s':ByteArray),l[j]?=some s'->kh s' t=false):l.any (kh t)=false:=by
 rw [kJ];intro s hs;obtain ⟨j,hj⟩:=cm hs;have:=hn j s hj;rw [fU,ne_eq,iQ] at this;rw [iQ];exact λe=>this e.symm
theorem wN {P:Program}(w:World)(t:TypeId)(s:ByteArray)(ht:P.underlying t=some .string)(h:Nat)(h2:h<=s.size) :
 (Instr.slice t (.string s) none (some (.int .i64 h)) none).run P w=.ok (.string (s.extract 0 h)) w:=by
 simp [Instr.slice,run_underlying ht,Instr.sliceBounds,run_sliceBound, *]
theorem ru {P:Program}(w:World)(t:TypeId)(s:ByteArray)(ht:P.underlying t=some .string)(l:Nat)(h2:l<=s.size) :
 (Instr.slice t (.string s) (some (.int .i64 l)) none none).run P w=.ok (.string (s.extract l s.size)) w:=by
 simp [Instr.slice,run_underlying ht,Instr.sliceBounds,run_sliceBound, *]
theorem I0 (s:ByteArray)(w:World)(hs:s.size<=281474976710656):Calls Tryz.prog 99 #[.string s] w λe w'=>e=.returned (.string s)/\Below w.heap.size w w':=by
 go_enter Tryz.func99,Tryz.ntmps99;go_wp2_with fail;refine (Tryz.stringslite_Clone s w hs).mono ?_;rintro r w1 ⟨rfl,hb⟩;have HB:=hide hb;clear hb;go_wp2_with fail;go_ret;exact ⟨rfl,ae HB⟩
theorem aK {w1:World}{r:Nat}{cs:Array Value}{t:TypeId}(h:w1.heap[r]?=some (.cells cs t (0,0)))(i:Nat):w1.frozen? ⟨r,i,none⟩=false:=by
 simp [World.frozen?,h]
theorem kQ {B:Nat}{w w1:World}(h:Below B w w1){r:Nat}(hr:B<=r)(a b c d:Value):Below B w ((((w1.setCell ⟨r,0,none⟩ a).setCell ⟨r,1,none⟩ b).setCell ⟨r,2,none⟩ c).setCell ⟨r,3,none⟩ d):=
 have hn:¬r<B:=by omega
 (((((aQ.vU h).setCell (p:=⟨r,0,none⟩) hn a).setCell (p:=⟨r,1,none⟩) hn b).setCell (p:=⟨r,2,none⟩) hn c).setCell (p:=⟨r,3,none⟩) hn d).below
theorem bD {w1:World}{r:Nat}{a b c d:Value}{t:TypeId}(h:w1.heap[r]?=some (.cells #[a,b,c,d] t (0,0))) :
 w1.cell? ⟨r,0,none⟩=some a/\w1.cell? ⟨r,1,none⟩=some b/\w1.cell? ⟨r,2,none⟩=some c/\w1.cell? ⟨r,3,none⟩=some d:=by
 simp [World.cell?,h]
theorem Hl (T:ByteArray)(w:World)(hT:T.size<=300)(hs:IX w)(hw:2<w.heap.size):Calls Tryz.prog 70 #[.string T] w λe w'=>
 e=.returned (.tuple #[iZ (oc T).1 0,.int .i64 (ya (oc T))])/\Below w.heap.size w w':=by
 have HS:=hide hs;clear hs;have hle:=fj T ct 0 (aN _);obtain ⟨n,hn⟩:∃n,n=aM T ct 0:=⟨_,rfl⟩;obtain ⟨t,ht⟩:∃t,t=T.extract 0 n:=⟨_,rfl⟩;rw [<- hn] at hle;have hsl:∀w,(Instr.slice 9 (.string T) none (some (.int .i64 n)) none).run Tryz.prog w=.ok (.string t) w:=λw=>by rw [ht];exact wN w 9 T Tryz.underlying9 n hle
 have hlen:=Dg T (w.alloc (.cells #[.int .i64 0,.int .i64 0,.string ⟨#[]⟩,.int .i64 0] 102)) hT;rw [<- hn] at hlen;have Ml:=hide hlen;have tG:oc T=if 8<n then (.bad,0) else if bS.any (kh t) then (.word t,n) else (.name t,n):=by rw [ht,hn];rfl
 have Pd:=hide tG;have ze:t.size<=300:=by rw [ht,cH];omega
 clear hlen tG hn ht;by_cases h8:8<n
 . have h8':(8:Int)<n:=by omega
   go_enter Tryz.func70,Tryz.ntmps70;go_wp2_with (go_at_call 98;refine (ae Ml).mono ?_;rintro r' w' ⟨rfl,rfl⟩)
   (try simp only [Exit.inBlock,Exit.then])
   refine ay (v:=.tuple #[.agg #[.int .i64 1,.int .i64 0,.string ⟨#[]⟩,.int .i64 0],.int .i64 0]) (by simp [results,Tryz.results70,go_sem];try rfl) rfl ?_;refine ⟨?_,(ag _ _).alloc (af _) _⟩;rw [ae Pd,aH h8];rfl
 . have h8':¬(8:Int)<n:=by omega
   go_enter Tryz.func70,Tryz.ntmps70;go_wp2_with (go_at_call 98;refine (ae Ml).mono ?_;rintro r' w' ⟨rfl,rfl⟩);go_loopw [6] (λc wr=>∃k:Nat,21<=k/\k<=49/\c=.int .i64 k/\wr=w.alloc (.cells #[.int .i64 0,.int .i64 0,.string ⟨#[]⟩,.int .i64 0] 102)/\Hid (∀(j:Nat) (s':ByteArray),j<k - 21->bS[j]?=some s'->kh s' t=false)) (λc _=>49 - (intOf c).toNat)
   case atStart=>exact ⟨21,by omega,by omega,rfl,rfl,hide (λj s' hj=>by omega)⟩
   case round=>
    obtain ⟨k,nN,nQ,rfl,rfl,HN⟩:=hrel;by_cases hk:k<=48
    . have QS:(k:Int)<=48:=by omega
      obtain ⟨s,Z7⟩:∃s,uH[k]?=some s:=⟨_,ah (show k<uH.length from by show k<49;omega)⟩;have Ko:bS[k - 21]?=some s:=(Pc k nN hk).symm.trans Z7;have hcell:(w.alloc (.cells #[.int .i64 0,.int .i64 0,.string ⟨#[]⟩,.int .i64 0] 102)).cell? ⟨2,k,none⟩=some (.string s):=(((ag w.heap.size w).alloc (af _) _).cell (p:=⟨2,k,none⟩) hw).trans (ae HS k s Z7);by_cases he:kh s t=true
      . have zT:(s.toList==t.toList)=true:=by rw [lC];exact he
        have yb:oc T=(.word t,n):=by rw [ae Pd,aA h8,aH (ad5 Ko he)]
        have HR:=hide yb;have HF:=hide (SQ Ko he (ae HN));clear yb Z7 Ko;go_wp2_with fail
        (try simp only [Exit.inBlock,Exit.then])
        refine ay (v:=.tuple #[.agg #[.int .i64 k,.int .i64 0,.string ⟨#[]⟩,.int .i64 0],.int .i64 n]) (by simp [results,Tryz.results70,go_sem];try rfl) rfl ?_;refine ⟨?_,(ag _ _).alloc (af _) _⟩;rw [ae HR];have e:aB (.word t)=k:=by
         show 21+sL bS t=k;rw [ae HF];omega
        show _=Ending.returned (.tuple #[.agg #[.int .i64 (aB (.word t)),.int .i64 0,.string ⟨#[]⟩,.int .i64 0],.int .i64 n]);rw [e]
      . have OJ:kh s t=false:=by simpa using he
        have zT:(s.toList==t.toList)=false:=by rw [lC];exact OJ
        have HK:=hide Ko;clear Z7 Ko;go_wp2_with fail;refine ⟨⟨k+1,by omega,by omega,by go_num,trivial,hide (λj s' hj hsj=>?_)⟩,by simp [intOf];omega⟩;by_cases YB:j<k - 21
        . exact ae HN j s' YB hsj
        . have e:j=k - 21:=by omega
          rw [e,ae HK] at hsj
          cases hsj
          exact OJ
    . have QS:¬(k:Int)<=48:=by omega
      have tq:k=49:=by omega
      have yb:oc T=(.name t,n):=by
       rw [ae Pd,aA h8,aA (by rw [Z8 (λj s' hj=>ae HN j s' (by have:=(ak.mp hj).1;have e:bS.length=28:=rfl;omega) hj)];decide)]
      have HR:=hide yb;clear yb;go_wp2_with fail;refine (I0 t _ (by omega)).mono ?_;rintro r w1 ⟨rfl,hb⟩;have bW:w1.heap[w.heap.size]?=some (.cells #[.int .i64 0,.int .i64 0,.string ⟨#[]⟩,.int .i64 0] 102 (0,0)):=(hb.block w.heap.size (by simp)).trans (ai w _);obtain ⟨q0,q1,q2,q3⟩:=bD bW;have z0:=aK bW 0;have z1:=aK bW 1;have z2:=aK bW 2;have z3:=aK bW 3;have HB:=hide ((((ag w.heap.size w).alloc (af _) _).trans (hb.mono (by simp))));clear hb bW;go_wp2_with fail
      (try simp only [Exit.inBlock,Exit.then])
      refine ay (v:=.tuple #[.agg #[.int .i64 2,.int .i64 0,.string t,.int .i64 0],.int .i64 n]) (by simp [results,Tryz.results70,go_sem,q0,q1,q2,q3];try rfl) rfl ?_;refine ⟨?_,kQ (ae HB) (af _) _ _ _ _⟩;rw [ae HR];rfl
def qo (T:ByteArray):Tk×Nat:=if 19<aM T cD 0\/9223372036854775807<lM (T.extract 0 (aM T cD 0)).data.toList then (.bad,0) else (.num (lM (T.extract 0 (aM T cD 0)).data.toList),aM T cD 0)
theorem CD {c:UInt8}(h:cD c=true):48<=c.toNat/\c.toNat<=57:=by
 unfold cD lY at h;rw [dj,cY,cY] at h;exact h
theorem Aw:∀(l:List UInt8) (acc:Nat),(∀c∈l,cD c=true)->l.length<=19->acc<10 ^ (19 - l.length)->Lib.parseUint10 acc l=.ok (l.foldl (λn c=>n*10+(c.toNat - 48)) acc)
 |[],acc,_,_,_=>rfl
 |c::r,acc,hd,hl,ha=>by
   have hc:=CD (hd c (by simp));simp only [List.length_cons] at hl ha;have e1:19 - r.length=(19 - (r.length+1))+1:=by omega
   have h1:acc*10+(c.toNat - 48)<10 ^ (19 - r.length):=by
    rw [e1,Nat.pow_succ];omega
   have h2:10 ^ (19 - r.length)<=10 ^ 19:=dH (by omega) (by omega);have h3:10 ^ (19 - (r.length+1))<=10 ^ 18:=dH (by omega) (by omega);have e19:(10:Nat) ^ 19=10000000000000000000:=rfl;have e18:(10:Nat) ^ 18=1000000000000000000:=rfl;rw [e19] at h2;rw [e18] at h3;rw [Lib.parseUint10,aH hc,aA (by omega),aA (by omega),iA];exact Aw r _ (λc h=>hd c (by simp [h])) (by omega) h1
theorem Mn {l:List UInt8}(hd:∀c∈l,cD c=true)(h1:1<=l.length)(hl:l.length<=19):Lib.atoiAll l=if 9223372036854775807<lM l then .range else .ok (lM l:Nat):=by
 cases l with
 |nil=>exact absurd h1 (by decide)
 |cons c r=>
   have hc:=CD (hd c (by simp));have hp:=Aw (c::r) 0 hd hl (Nat.pow_pos (by omega));have hm:Lib.parseMag (c::r)=.ok (lM (c::r)):=by
    unfold Lib.parseMag;rw [aA (by simp),hp];rfl
   unfold Lib.atoiAll;simp only;rw [aA (by omega),hm];simp only;have hn:¬c.toNat=45:=by omega
   by_cases hb:9223372036854775807<lM (c::r)
   . rw [aH hb,aH ⟨hn,by omega⟩]
   . rw [aA hb,aA (by omega),aA (by omega),aA hn]
theorem SR (T:ByteArray):∀c∈(T.extract 0 (aM T cD 0)).data.toList,cD c=true:=by
 intro c hc;obtain ⟨j,hj⟩:=cm hc;have cF:=(ak.mp hj).1;have hle:=fj T cD 0 (aN _);have hjs:j<aM T cD 0:=by
  have:(T.extract 0 (aM T cD 0)).size=aM T cD 0:=by rw [cH];omega
  rw [oi,this] at cF;exact cF
 obtain ⟨h1,h2⟩:=DS T cD 0 j (aN _) hjs;have e:c=T[j]:=by
  rw [fJ,jd,fM] at hj;simp only [List.drop_zero,Nat.sub_zero] at hj;rw [fy,aH hjs,Mj T j h1] at hj
  cases hj
  rfl
 rw [e];exact h2
def BL (w:World):Prop:=∃ev,w.cell? ⟨6,0,none⟩=some ev/\(ev=.nilIface\/∃te pe,ev=.iface te pe)
theorem BL.below {w w':World}{B:Nat}(h:BL w)(hb:Below B w w')(hB:6<B):BL w':=by
 obtain ⟨ev,h1,h2⟩:=h;exact ⟨ev,(hb.cell (p:=⟨6,0,none⟩) hB).trans h1,h2⟩
theorem Dh (T:ByteArray)(w:World)(hT:T.size<=300)(h0:0<T.size)(hd:cD T[0]=true)(he:BL w)(hw:6<w.heap.size):Calls Tryz.prog 72 #[.string T] w λe w'=>
 e=.returned (.tuple #[iZ (qo T).1 0,.int .i64 (ya (qo T))])/\Below w.heap.size w w':=by
 have hle:=fj T cD 0 (aN _);have hge:1<=aM T cD 0:=by rw [gU T cD 0 h0 hd];exact fg T cD 1
 obtain ⟨n,hn⟩:∃n,n=aM T cD 0:=⟨_,rfl⟩;obtain ⟨t,ht⟩:∃t,t=T.extract 0 n:=⟨_,rfl⟩;rw [<- hn] at hle hge;have ze:t.size=n:=by rw [ht,cH];omega
 have anq:∀c∈t.data.toList,cD c=true:=by rw [ht,hn];exact SR T
 have hsl:∀w,(Instr.slice 9 (.string T) none (some (.int .i64 n)) none).run Tryz.prog w=.ok (.string t) w:=λw=>by rw [ht];exact wN w 9 T Tryz.underlying9 n hle
 have hlen:=Fe T (w.alloc (.cells #[.int .i64 0,.int .i64 0,.string ⟨#[]⟩,.int .i64 0] 102)) hT;rw [<- hn] at hlen;have Ml:=hide hlen;have tG:qo T=if 19<n\/9223372036854775807<lM t.data.toList then (.bad,0) else (.num (lM t.data.toList),n):=by rw [ht,hn];rfl
 have Pd:=hide tG;have iw:Below w.heap.size w (w.alloc (.cells #[.int .i64 0,.int .i64 0,.string ⟨#[]⟩,.int .i64 0] 102)):=(ag _ _).alloc (af _) _;have HE:=hide (he.below iw hw);have wE:=hide iw;clear hlen tG hn ht he iw;by_cases h19:19<n
 . have adf:(19:Int)<n:=by omega
   go_enter Tryz.func72,Tryz.ntmps72;go_wp2_with (go_at_call 98;refine (ae Ml).mono ?_;rintro r' w' ⟨rfl,rfl⟩)
   (try simp only [Exit.inBlock,Exit.then])
   refine ay (v:=.tuple #[.agg #[.int .i64 1,.int .i64 0,.string ⟨#[]⟩,.int .i64 0],.int .i64 0]) (by simp [results,Tryz.results72,go_sem];try rfl) rfl ?_;refine ⟨?_,(ag _ _).alloc (af _) _⟩;rw [ae Pd,aH (.inl h19)];rfl
 . have adf:¬(19:Int)<n:=by omega
   have jM:=Mn anq (by rw [oi];omega) (by rw [oi];omega);by_cases BI:9223372036854775807<lM t.data.toList
   . rw [aH BI] at jM
     obtain ⟨ev,hv,hev⟩:=ae HE;have Vp:=hide (Tryz.strconv_Atoi_range t (by omega) jM ev _ hv hev);have HR:=hide (show qo T=(.bad,0) from by rw [ae Pd,aH (.inr BI)]);clear jM hv hev;go_enter Tryz.func72,Tryz.ntmps72;go_wp2_with (go_at_call 98;refine (ae Ml).mono ?_;rintro r' w' ⟨rfl,rfl⟩);refine (ae Vp).mono ?_;rintro r w1 ⟨N,rfl,-,-,hb⟩;have bW:w1.heap[w.heap.size]?=some (.cells #[.int .i64 0,.int .i64 0,.string ⟨#[]⟩,.int .i64 0] 102 (0,0)):=(hb.block w.heap.size (by simp)).trans (ai w _);obtain ⟨q0,q1,q2,q3⟩:=bD bW;have z0:=aK bW 0;have z1:=aK bW 1;have z2:=aK bW 2;have z3:=aK bW 3;have HB:=hide ((ae wE).trans (hb.mono (by simp)));clear hb bW;go_wp2_with fail
     (try simp only [Exit.inBlock,Exit.then])
     refine ay (v:=.tuple #[.agg #[.int .i64 1,.int .i64 0,.string ⟨#[]⟩,.int .i64 0],.int .i64 0]) (by simp [results,Tryz.results72,go_sem,q0,q1,q2,q3];try rfl) rfl ?_;refine ⟨?_,kQ (ae HB) (af _) _ _ _ _⟩;rw [ae HR];rfl
   . rw [aA BI] at jM
     have Vp:=hide (Tryz.strconv_Atoi_ok t (by omega) _ jM (w.alloc (.cells #[.int .i64 0,.int .i64 0,.string ⟨#[]⟩,.int .i64 0] 102)));have HR:=hide (show qo T=(.num (lM t.data.toList),n) from by rw [ae Pd,aA (by omega)]);clear jM;go_enter Tryz.func72,Tryz.ntmps72;go_wp2_with (go_at_call 98;refine (ae Ml).mono ?_;rintro r' w' ⟨rfl,rfl⟩);refine (ae Vp).mono ?_;rintro r w1 ⟨rfl,o9⟩;have hb:Below (w.alloc (.cells #[.int .i64 0,.int .i64 0,.string ⟨#[]⟩,.int .i64 0] 102)).heap.size (w.alloc (.cells #[.int .i64 0,.int .i64 0,.string ⟨#[]⟩,.int .i64 0] 102)) w1:=by
      rcases o9 with rfl|⟨u,rfl⟩
      . exact ag _ _
      . exact Lib.bytesWorld_below _ _ _
     have bW:w1.heap[w.heap.size]?=some (.cells #[.int .i64 0,.int .i64 0,.string ⟨#[]⟩,.int .i64 0] 102 (0,0)):=(hb.block w.heap.size (by simp)).trans (ai w _);obtain ⟨q0,q1,q2,q3⟩:=bD bW;have z0:=aK bW 0;have z1:=aK bW 1;have z2:=aK bW 2;have z3:=aK bW 3;have HB:=hide ((ae wE).trans (hb.mono (by simp)));clear hb bW o9;go_wp2_with fail
     (try simp only [Exit.inBlock,Exit.then])
     refine ay (v:=.tuple #[.agg #[.int .i64 3,.int .i64 0,.string ⟨#[]⟩,.int .i64 (lM t.data.toList:Nat)],.int .i64 n]) (by simp [results,Tryz.results72,go_sem,q0,q1,q2,q3];try rfl) rfl ?_;refine ⟨?_,kQ (ae HB) (af _) _ _ _ _⟩;rw [ae HR];rfl
def ry (s:ByteArray):Bool:=decide (s.size<=12)&&s.data.toList.all eE
theorem zi (s:ByteArray)(i:Nat)(hi:i<s.size)(hb:eE s[i]=false):ry s=false:=by
 have:s.data.toList.all eE=false:=List.all_eq_false.2 ⟨s[i],aG (Mj s i hi),by simp [hb]⟩;simp [ry,this]
theorem Kp {c:UInt8}(h:(c.toNat:Int)<32\/126<(c.toNat:Int)\/(c.toNat:Int)=39):eE c=false:=by
 rw [fU,ne_eq,tF];omega
theorem qB (s:ByteArray)(w:World) :
 Calls Tryz.prog 102 #[.string s] w λe w'=>e=.returned (.bool (ry s))/\w=w':=by
 by_cases JL:s.size<=12
 . have acP:(s.size:Int)<=12:=by omega
   go_enter Tryz.func102,Tryz.ntmps102;go_wp2;go_loop [9] (λc=>∃i:Nat,i<=s.size/\c=.int .i64 i/\Hid ((s.data.toList.take i).all eE=true)) (λc=>s.size - (intOf c).toNat)
   case atStart=>exact ⟨0,aN _,rfl,hide (by simp)⟩
   case round=>
    obtain ⟨i,hi,rfl,HA⟩:=hrel;by_cases cF:i<s.size
    . have jI:(i:Int)<(s.size:Int):=by omega
      go_wp2
      . have hq:((s[i].toNat:Int)<32\/(126:Int)<(s[i].toNat:Int))\/((s[i].toNat:Int)==39)=true:=by assumption
        go_ret;exact ⟨aU Ending.returned (aU Value.bool (zi s i cF (Kp (by rcases hq with (h|h)|h;exact .inl h;exact .inr (.inl h);exact .inr (.inr (bz.1 h))))).symm),rfl⟩
      . have hq:((32:Int)<=(s[i].toNat:Int)/\(s[i].toNat:Int)<=126)/\((s[i].toNat:Int)==39)=false:=by assumption
        go_round
        case rel=>
         refine ⟨i+1,by omega,by go_num,hide ?_⟩;rw [eQ (by rw [oi];exact cF),List.all_append,ae HA];have h3:=aj.1 hq.2;have:eE s[i]=true:=(tF s[i]).mpr (by omega);simp only [List.all_cons,List.all_nil,Bool.and_true,Bool.true_and];exact this
        case measure=>simp [intOf];omega
      . have hq:(126:Int)<(s[i].toNat:Int):=by assumption
        go_ret;exact ⟨aU Ending.returned (aU Value.bool (zi s i cF (Kp (.inr (.inl hq)))).symm),rfl⟩
      . have hq:(s[i].toNat:Int)<32:=by assumption
        go_ret;exact ⟨aU Ending.returned (aU Value.bool (zi s i cF (Kp (.inl hq))).symm),rfl⟩
    . go_wp2
      go_ret;refine ⟨aU Ending.returned (aU Value.bool ?_),rfl⟩;have:=ae HA;rw [aP (by rw [oi];omega)] at this;simp [ry,JL,this]
 . have acP:(12:Int)<(s.size:Int):=by omega
   go_enter Tryz.func102,Tryz.ntmps102;go_wp2;go_ret;refine ⟨aU Ending.returned (aU Value.bool ?_),rfl⟩;simp [ry,JL]
def BM (c:UInt8):Bool:=c != 39
theorem ahT:∀(u:List UInt8),((39:UInt8)∈u->Lib.index u [39]=((u.takeWhile BM).length:Nat))/\((39:UInt8)∉u->Lib.index u [39]=-1)
 |[]=>⟨λh=>by simp at h,λ_=>rfl⟩
 |c::r=>by
   obtain ⟨h1,h2⟩:=ahT r;by_cases hc:c=39
   . subst hc
     refine ⟨λ_=>?_,λh=>absurd (by simp) h⟩;rw [Lib.index,aH (by simp [List.isPrefixOf])];simp [BM]
   . have hp:([39]:List UInt8).isPrefixOf (c::r)=false:=by
      simp [List.isPrefixOf];exact λe=>hc e.symm
     have ht:(c::r).takeWhile BM=c::r.takeWhile BM:=by
      rw [eN,aH (by simp [BM,hc])]
     rw [Lib.index,aA (by rw [hp];decide),ht];constructor
     . intro h
       have hr:(39:UInt8)∈r:=by
        rcases bY.mp h with e|e
        . exact absurd e.symm hc
        . exact e
       rw [h1 hr,aA (by simp)];simp
     . intro h
       rw [h2 (λe=>h (dY _ e)),aH (by decide)]
theorem abY:∀(u:List UInt8),((39:UInt8)∈u->(u.takeWhile BM).all eE=true->u[(u.takeWhile eE).length]?=some 39/\u.takeWhile eE=u.takeWhile BM)/\(u[(u.takeWhile eE).length]?=some 39->(39:UInt8)∈u/\(u.takeWhile BM).all eE=true)
 |[]=>⟨λh=>by simp at h,λh=>by simp at h⟩
 |c::r=>by
   obtain ⟨h1,h2⟩:=abY r;by_cases hc:c=39
   . subst hc
     have hs:eE 39=false:=by decide
     have t1:((39:UInt8)::r).takeWhile eE=[]:=by rw [eN,aA (by rw [hs];decide)]
     have t2:((39:UInt8)::r).takeWhile BM=[]:=by rw [eN,aA (by decide)]
     rw [t1,t2];exact ⟨λ_ _=>⟨rfl,rfl⟩,λ_=>⟨by simp,rfl⟩⟩
   . rw [eN,eN,aH (show BM c=true from by simp [BM,hc])]
     cases hs:eE c with
     |true=>
       simp only [if_true,List.length_cons,List.getElem?_cons_succ,List.all_cons,hs,Bool.true_and];constructor
       . intro h ha
         have hr:(39:UInt8)∈r:=by
          rcases bY.mp h with e|e
          . exact absurd e.symm hc
          . exact e
         obtain ⟨q1,q2⟩:=h1 hr ha;exact ⟨q1,by rw [q2]⟩
       . intro h
         obtain ⟨q1,q2⟩:=h2 h;exact ⟨dY _ q1,q2⟩
     |false=>
       simp only [List.all_cons,hs,Bool.false_and];refine ⟨λ_ h=>absurd h (by decide),λh=>?_⟩;simp at h;exact absurd h hc
def mA (T:ByteArray):Tk×Nat:=if h2:aM T eE 1<T.size then (if T[aM T eE 1].toNat=39/\aM T eE 1 - 1<=12 then (.str (T.extract 1 (aM T eE 1)),aM T eE 1+1) else (.bad,0)) else (.bad,0)
theorem BN (T:ByteArray)(f:UInt8->Bool)(i:Nat)(hi:i<=T.size):aM T f i=i+((T.data.toList.drop i).takeWhile f).length:=by
 have h:=IY T f _ i rfl hi;have h2:=aU List.length (pg (p:=f) (l:=T.data.toList.drop i));rw [au,cu,oi] at h2;omega
theorem Kq (T:ByteArray)(i:Nat):(T.extract i T.size).data.toList=T.data.toList.drop i:=by
 rw [fJ,jd,fM];rw [aP];rw [cu,oi];exact af _
theorem ad6 (T:ByteArray)(i n:Nat):(T.extract i (i+n)).data.toList=(T.data.toList.drop i).take n:=by
 rw [fJ,jd,fM];congr 1;omega
theorem Kr {s t:ByteArray}(h:s.data.toList=t.data.toList):s=t:=sR (iK.mp h)
theorem Wn (T:ByteArray)(h0:0<T.size):mA T=(if (Lib.cut (T.extract 1 T.size).data.toList [39]).2.2&&ry ⟨(Lib.cut (T.extract 1 T.size).data.toList [39]).1.toArray⟩ then (.str ⟨(Lib.cut (T.extract 1 T.size).data.toList [39]).1.toArray⟩,(Lib.cut (T.extract 1 T.size).data.toList [39]).1.length+2) else (.bad,0)):=by
 rw [Kq];obtain ⟨u,hu⟩:∃u,u=T.data.toList.drop 1:=⟨_,rfl⟩;rw [<- hu];have hul:u.length=T.size - 1:=by rw [hu,cu,oi]
 have DI:=BN T eE 1 h0;rw [<- hu] at DI;have E3:∀j (hj:1+j<T.size),u[j]?=some T[1+j]:=λj hj=>by
  rw [hu,gx];exact Mj T (1+j) hj
 obtain ⟨c1,c2⟩:=ahT u;obtain ⟨a1,a2⟩:=abY u;have SK:(u.takeWhile BM).length<=u.length:=(List.takeWhile_prefix BM).length_le;have nS:u.take (u.takeWhile BM).length=u.takeWhile BM:=(List.prefix_iff_eq_take.mp (List.takeWhile_prefix BM)).symm;unfold mA;by_cases hq:(39:UInt8)∈u
 . have hcut:Lib.cut u [39]=(u.takeWhile BM,u.drop ((u.takeWhile BM).length+1),true):=by
    unfold Lib.cut;rw [c1 hq,aH (by omega)];simp [nS]
   rw [hcut];simp only [Bool.true_and];by_cases kT:(u.takeWhile BM).all eE=true
   . obtain ⟨b1,b2⟩:=a1 hq kT
     have cF:aM T eE 1<T.size:=by
      have:=(ak.mp b1).1;omega
     rw [iX cF];have hT:T[aM T eE 1].toNat=39:=by
      have e:=E3 (u.takeWhile eE).length (by omega);rw [b1] at e;have e2:(39:UInt8)=T[1+(u.takeWhile eE).length]:=aS e;have e3:T[aM T eE 1]=T[1+(u.takeWhile eE).length]'(by omega):=by congr 1
      rw [e3,<- e2];rfl
     have kd:ry ⟨(u.takeWhile BM).toArray⟩=decide ((u.takeWhile BM).length<=12):=by
      unfold ry;show (decide ((u.takeWhile BM).length<=12)&&(u.takeWhile BM).all eE)=_;rw [kT,Bool.and_true]
     rw [kd];by_cases JL:(u.takeWhile BM).length<=12
     . rw [aH ⟨hT,by rw [DI,b2];omega⟩,aH (by simpa using JL)]
       have hex:T.extract 1 (aM T eE 1)=⟨(u.takeWhile BM).toArray⟩:=by
        apply Kr;rw [DI,ad6,<- hu,b2,nS]
       rw [hex,DI,b2];congr 1;omega
     . rw [aA (λhh=>JL (by have:=hh.2;rw [DI,b2] at this;omega)),aA (by simpa using JL)]
   . have kd:ry ⟨(u.takeWhile BM).toArray⟩=false:=by
      unfold ry;show (decide _&&(u.takeWhile BM).all eE)=_;rw [fU.mpr kT,Bool.and_false]
     rw [kd,aA (show ¬(false=true) from by decide)];split
     . rename_i cF
       rw [aA];rintro ⟨hT,-⟩;have e:=E3 (u.takeWhile eE).length (by omega);have e3:T[aM T eE 1]=T[1+(u.takeWhile eE).length]'(by omega):=by congr 1
       rw [e3] at hT;have e4:T[1+(u.takeWhile eE).length]'(by omega)=39:=eK.mp hT;rw [e4] at e;exact kT (a2 e).2
     . rfl
 . have hcut:Lib.cut u [39]=(u,[],false):=by
    unfold Lib.cut;rw [c2 hq,aA (by decide)]
   rw [hcut,aA (by simp)];split
   . rename_i cF
     rw [aA];rintro ⟨hT,-⟩;have e:=E3 (u.takeWhile eE).length (by omega);have e3:T[aM T eE 1]=T[1+(u.takeWhile eE).length]'(by omega):=by congr 1
     rw [e3] at hT;have e4:T[1+(u.takeWhile eE).length]'(by omega)=39:=eK.mp hT;rw [e4] at e;exact hq (a2 e).1
   . rfl
def I3 (w:World):Prop:=∃m,w.cell? ⟨7,0,none⟩=some (.int .i64 m)
theorem I3.below {w w':World}{B:Nat}(h:I3 w)(hb:Below B w w')(hB:7<B):I3 w':=by
 obtain ⟨m,h1⟩:=h;exact ⟨m,(hb.cell (p:=⟨7,0,none⟩) hB).trans h1⟩
theorem fK {w:World}{k:Nat}{o:Obj}(h:w.heap[k]?=some o):k<w.heap.size:=(dM.mp h).1
theorem Below.drewN {B:Nat}{a w:World}(h:Below B a w)(n:Nat):Below B a (w.drewN n):=⟨h.os,h.tape,h.output,h.size,h.block⟩
theorem Di (T:ByteArray)(w:World)(hT:T.size<=300)(h0:0<T.size)(hm:I3 w)(hw:7<w.heap.size):Calls Tryz.prog 73 #[.string T] w λe w'=>
 e=.returned (.tuple #[iZ (mA T).1 0,.int .i64 (ya (mA T))])/\Below w.heap.size w w':=by
 obtain ⟨u,hu⟩:∃u,u=T.extract 1 T.size:=⟨_,rfl⟩;have hsl:∀w,(Instr.slice 9 (.string T) (some (.int .i64 1)) none none).run Tryz.prog w=.ok (.string u) w:=λw=>by rw [hu];exact ru w 9 T Tryz.underlying9 1 h0
 have tG:=Wn T h0;rw [<- hu] at tG;have Pe:u.size<=300:=by rw [hu,cH];omega
 have iw:Below w.heap.size w (w.alloc (.cells #[.int .i64 0,.int .i64 0,.string ⟨#[]⟩,.int .i64 0] 102)):=(ag _ _).alloc (af _) _;obtain ⟨mx,hmx⟩:=hm.below iw hw;have hcut:=Tryz.strings_Cut u ⟨#[39]⟩ mx _ (by omega) hmx;have QT:(Lib.cut u.data.toList [39]).1.length<=300:=by
  unfold Lib.cut;split
  . exact aw (List.length_take_le' _ _) (by rw [oi];exact Pe)
  . rw [oi];exact Pe
 obtain ⟨q,hq⟩:∃q,q=Lib.cut u.data.toList [39]:=⟨_,rfl⟩;have Ri:Calls Tryz.prog 101 #[.string u,.string ⟨#[39]⟩] (w.alloc (.cells #[.int .i64 0,.int .i64 0,.string ⟨#[]⟩,.int .i64 0] 102)) λe w'=>e=.returned (.tuple #[.string ⟨q.1.toArray⟩,.string ⟨q.2.1.toArray⟩,.bool q.2.2])/\∃n,w'=(w.alloc (.cells #[.int .i64 0,.int .i64 0,.string ⟨#[]⟩,.int .i64 0] 102)).drewN n:=by
  rw [hq];exact hcut
 rw [<- hq] at tG QT;obtain ⟨x,rest,b⟩:=q;simp only at tG QT Ri;obtain ⟨s,hs⟩:∃s:ByteArray,s=⟨x.toArray⟩:=⟨_,rfl⟩;have DJ:s.size=x.length:=by rw [hs];simp [ByteArray.size]
 rw [<- hs] at tG Ri;rw [<- DJ] at tG QT;have HC:=hide Ri;have Pd:=hide tG;have wE:=hide iw;clear hcut Ri tG hmx hm iw hu hq hs
 cases b
 . have HR:=hide (show mA T=(.bad,0) from by rw [ae Pd];rfl)
   go_enter Tryz.func73,Tryz.ntmps73;go_wp2_with fail;refine (ae HC).mono ?_;rintro r w1 ⟨rfl,n,o9⟩;have hb:Below (w.alloc (.cells #[.int .i64 0,.int .i64 0,.string ⟨#[]⟩,.int .i64 0] 102)).heap.size (w.alloc (.cells #[.int .i64 0,.int .i64 0,.string ⟨#[]⟩,.int .i64 0] 102)) w1:=by
    rw [o9];exact Below.drewN (ag _ _) n
   have bW:w1.heap[w.heap.size]?=some (.cells #[.int .i64 0,.int .i64 0,.string ⟨#[]⟩,.int .i64 0] 102 (0,0)):=(hb.block w.heap.size (by simp)).trans (ai w _);obtain ⟨q0,q1,q2,q3⟩:=bD bW;have z0:=aK bW 0;have z1:=aK bW 1;have z2:=aK bW 2;have z3:=aK bW 3;have HB:=hide ((ae wE).trans (hb.mono (by simp)));have SS:=hide bW;clear hb bW o9;clear SS;go_wp2_with fail
   (try simp only [Exit.inBlock,Exit.then])
   refine ay (v:=.tuple #[.agg #[.int .i64 1,.int .i64 0,.string ⟨#[]⟩,.int .i64 0],.int .i64 0]) (by simp [results,Tryz.results73,go_sem,q0,q1,q2,q3];try rfl) rfl ?_;refine ⟨?_,kQ (ae HB) (af _) _ _ _ _⟩;rw [ae HR];rfl
 . cases kW:ry s
   . have HR:=hide (show mA T=(.bad,0) from by rw [ae Pd,kW];rfl)
     go_enter Tryz.func73,Tryz.ntmps73;go_wp2_with fail;refine (ae HC).mono ?_;rintro r w1 ⟨rfl,n,o9⟩;have hb:Below (w.alloc (.cells #[.int .i64 0,.int .i64 0,.string ⟨#[]⟩,.int .i64 0] 102)).heap.size (w.alloc (.cells #[.int .i64 0,.int .i64 0,.string ⟨#[]⟩,.int .i64 0] 102)) w1:=by
      rw [o9];exact Below.drewN (ag _ _) n
     have bW:w1.heap[w.heap.size]?=some (.cells #[.int .i64 0,.int .i64 0,.string ⟨#[]⟩,.int .i64 0] 102 (0,0)):=(hb.block w.heap.size (by simp)).trans (ai w _);obtain ⟨q0,q1,q2,q3⟩:=bD bW;have z0:=aK bW 0;have z1:=aK bW 1;have z2:=aK bW 2;have z3:=aK bW 3;have HB:=hide ((ae wE).trans (hb.mono (by simp)));have SS:=hide bW;clear hb bW o9;clear SS;go_wp2_with (go_at_call 102;refine (qB _ _).mono ?_;rintro r' w' ⟨rfl,rfl⟩)
     (try simp only [Exit.inBlock,Exit.then])
     refine ay (v:=.tuple #[.agg #[.int .i64 1,.int .i64 0,.string ⟨#[]⟩,.int .i64 0],.int .i64 0]) (by simp [results,Tryz.results73,go_sem,q0,q1,q2,q3];try rfl) rfl ?_;refine ⟨?_,kQ (ae HB) (af _) _ _ _ _⟩;rw [ae HR];rfl
   . have HR:=hide (show mA T=(.str s,s.size+2) from by rw [ae Pd,kW];rfl)
     go_enter Tryz.func73,Tryz.ntmps73;go_wp2_with fail;refine (ae HC).mono ?_;rintro r w1 ⟨rfl,n,o9⟩;have hb:Below (w.alloc (.cells #[.int .i64 0,.int .i64 0,.string ⟨#[]⟩,.int .i64 0] 102)).heap.size (w.alloc (.cells #[.int .i64 0,.int .i64 0,.string ⟨#[]⟩,.int .i64 0] 102)) w1:=by
      rw [o9];exact Below.drewN (ag _ _) n
     have bW:w1.heap[w.heap.size]?=some (.cells #[.int .i64 0,.int .i64 0,.string ⟨#[]⟩,.int .i64 0] 102 (0,0)):=(hb.block w.heap.size (by simp)).trans (ai w _);obtain ⟨q0,q1,q2,q3⟩:=bD bW;have z0:=aK bW 0;have z1:=aK bW 1;have z2:=aK bW 2;have z3:=aK bW 3;have HB:=hide ((ae wE).trans (hb.mono (by simp)));have SS:=hide bW;clear hb bW o9;go_wp2_with (go_at_call 102;refine (qB _ _).mono ?_;rintro r' w' ⟨rfl,rfl⟩);refine (I0 s _ (by omega)).mono ?_;rintro r w2 ⟨rfl,bO⟩;have I4:w2.heap[w.heap.size]?=some (.cells #[.int .i64 0,.int .i64 0,.string ⟨#[]⟩,.int .i64 0] 102 (0,0)):=(bO.block w.heap.size (by have:=fK (ae SS);omega)).trans (ae SS);obtain ⟨y0,y1,y2,y3⟩:=bD I4;have x0:=aK I4 0;have x1:=aK I4 1;have x2:=aK I4 2;have x3:=aK I4 3;have jg:=hide ((ae HB).trans (bO.mono (ae HB).size));clear bO I4;go_wp2_with fail
     (try simp only [Exit.inBlock,Exit.then])
     refine ay (v:=.tuple #[.agg #[.int .i64 4,.int .i64 0,.string s,.int .i64 0],.int .i64 ((x.length:Int)+2)]) (by simp [results,Tryz.results73,go_sem,y0,y1,y2,y3];try rfl) rfl ?_;refine ⟨?_,kQ (ae jg) (af _) _ _ _ _⟩;rw [ae HR];have e:(((s.size+2:Nat)):Int)=(x.length:Int)+2:=by rw [DJ];omega
     show _=Ending.returned (.tuple #[.agg #[.int .i64 4,.int .i64 0,.string s,.int .i64 0],.int .i64 (((s.size+2:Nat)):Int)]);rw [e]
def ie (T:ByteArray):Tk×Nat:=
 if h:0<T.size then (if ct T[0] then oc T else if cD T[0] then qo T else if T[0].toNat=39 then mA T else mV T h) else (.stop,0)
structure vy (w:World):Prop where
 spelt:IX w
 ahU:BL w
 max:I3 w
 size:12<=w.heap.size
theorem vy.below {w w':World}{B:Nat}(h:vy w)(hb:Below B w w')(hB:12<=B):vy w':=
 ⟨h.spelt.below hb (by omega),h.ahU.below hb (by omega),h.max.below hb (by omega),aw h.size hb.size⟩
theorem uI (T:ByteArray)(h:0<T.size):T.toList.isEmpty=false:=by
 cases hh:T.toList.isEmpty with
 |false=>rfl
 |true=>
   exfalso;have e:T.toList=[]:=List.isEmpty_iff.mp hh;have h1:=dx T [];rw [e] at h1;have h2:T=bs []:=iQ.mp h1.symm;rw [h2] at h;exact absurd h (by decide)
theorem Dj (T:ByteArray)(w:World)(hT:T.size<=300)(h0:0<T.size)(hl:ct T[0]=true)(hg:vy w):Calls Tryz.prog 53 #[.string T] w λe w'=>
 e=.returned (.tuple #[iZ (oc T).1 0,.int .i64 (ya (oc T))])/\Below w.heap.size w w':=by
 have iw:Below w.heap.size w (w.alloc (.cells #[.int .i64 0,.int .i64 0,.string ⟨#[]⟩,.int .i64 0] 102)):=(ag _ _).alloc (af _) _;have IG:=hg.below iw hg.size;have hz:=IG.size;have HC:=hide (Hl T _ hT IG.spelt (by omega));have wE:=hide iw;have he:T.toList.isEmpty=false:=uI T h0;have zS:jU T[0].toNat=true:=hl;clear iw IG hg hz;go_enter Tryz.func53,Tryz.ntmps53;go_wp2_with (first|(go_at_call 69;refine (mU _ _).mono ?_;rintro r' w' ⟨rfl,rfl⟩)|(go_at_call 71;refine (ot _ _).mono ?_;rintro r' w' ⟨rfl,rfl⟩));refine (ae HC).mono ?_;rintro r w1 ⟨rfl,hb⟩;have bW:w1.heap[w.heap.size]?=some (.cells #[.int .i64 0,.int .i64 0,.string ⟨#[]⟩,.int .i64 0] 102 (0,0)):=(hb.block w.heap.size (by simp)).trans (ai w _);obtain ⟨q0,q1,q2,q3⟩:=bD bW;have z0:=aK bW 0;have z1:=aK bW 1;have z2:=aK bW 2;have z3:=aK bW 3;have HB:=hide ((ae wE).trans (hb.mono (by simp)));clear hb bW;unfold iZ;go_wp2_with fail
 (try simp only [Exit.inBlock,Exit.then])
 refine ay (v:=.tuple #[iZ (oc T).1 0,.int .i64 (ya (oc T))]) (by simp [results,Tryz.results53,go_sem,iZ,q0,q1,q2,q3];try rfl) rfl ?_;exact ⟨rfl,kQ (ae HB) (af _) _ _ _ _⟩
theorem Fh (T:ByteArray)(w:World)(hT:T.size<=300)(h0:0<T.size)(hl:ct T[0]=false)(hd:cD T[0]=true)(hg:vy w):Calls Tryz.prog 53 #[.string T] w λe w'=>
 e=.returned (.tuple #[iZ (qo T).1 0,.int .i64 (ya (qo T))])/\Below w.heap.size w w':=by
 have iw:Below w.heap.size w (w.alloc (.cells #[.int .i64 0,.int .i64 0,.string ⟨#[]⟩,.int .i64 0] 102)):=(ag _ _).alloc (af _) _;have IG:=hg.below iw hg.size;have hz:=IG.size;have HC:=hide (Dh T _ hT h0 hd IG.ahU (by omega));have wE:=hide iw;have he:T.toList.isEmpty=false:=uI T h0;have zS:jU T[0].toNat=false:=hl;have hd':lY T[0].toNat=true:=hd;clear iw IG hg hz;go_enter Tryz.func53,Tryz.ntmps53;go_wp2_with (first|(go_at_call 69;refine (mU _ _).mono ?_;rintro r' w' ⟨rfl,rfl⟩)|(go_at_call 71;refine (ot _ _).mono ?_;rintro r' w' ⟨rfl,rfl⟩));refine (ae HC).mono ?_;rintro r w1 ⟨rfl,hb⟩;have bW:w1.heap[w.heap.size]?=some (.cells #[.int .i64 0,.int .i64 0,.string ⟨#[]⟩,.int .i64 0] 102 (0,0)):=(hb.block w.heap.size (by simp)).trans (ai w _);obtain ⟨q0,q1,q2,q3⟩:=bD bW;have z0:=aK bW 0;have z1:=aK bW 1;have z2:=aK bW 2;have z3:=aK bW 3;have HB:=hide ((ae wE).trans (hb.mono (by simp)));clear hb bW;unfold iZ;go_wp2_with fail
 (try simp only [Exit.inBlock,Exit.then])
 refine ay (v:=.tuple #[iZ (qo T).1 0,.int .i64 (ya (qo T))]) (by simp [results,Tryz.results53,go_sem,iZ,q0,q1,q2,q3];try rfl) rfl ?_;exact ⟨rfl,kQ (ae HB) (af _) _ _ _ _⟩
theorem Fi (T:ByteArray)(w:World)(hT:T.size<=300)(h0:0<T.size)(hl:ct T[0]=false)(hd:cD T[0]=false)(hq:T[0].toNat=39)(hg:vy w):Calls Tryz.prog 53 #[.string T] w λe w'=>
 e=.returned (.tuple #[iZ (mA T).1 0,.int .i64 (ya (mA T))])/\Below w.heap.size w w':=by
 have iw:Below w.heap.size w (w.alloc (.cells #[.int .i64 0,.int .i64 0,.string ⟨#[]⟩,.int .i64 0] 102)):=(ag _ _).alloc (af _) _;have IG:=hg.below iw hg.size;have hz:=IG.size;have HC:=hide (Di T _ hT h0 IG.max (by omega));have wE:=hide iw;have he:T.toList.isEmpty=false:=uI T h0;have zS:jU T[0].toNat=false:=hl;have hd':lY T[0].toNat=false:=hd;have Co:((T[0].toNat:Int)==39)=true:=by rw [bz];omega
 clear iw IG hg hz;go_enter Tryz.func53,Tryz.ntmps53;go_wp2_with (first|(go_at_call 69;refine (mU _ _).mono ?_;rintro r' w' ⟨rfl,rfl⟩)|(go_at_call 71;refine (ot _ _).mono ?_;rintro r' w' ⟨rfl,rfl⟩));refine (ae HC).mono ?_;rintro r w1 ⟨rfl,hb⟩;have bW:w1.heap[w.heap.size]?=some (.cells #[.int .i64 0,.int .i64 0,.string ⟨#[]⟩,.int .i64 0] 102 (0,0)):=(hb.block w.heap.size (by simp)).trans (ai w _);obtain ⟨q0,q1,q2,q3⟩:=bD bW;have z0:=aK bW 0;have z1:=aK bW 1;have z2:=aK bW 2;have z3:=aK bW 3;have HB:=hide ((ae wE).trans (hb.mono (by simp)));clear hb bW;unfold iZ;go_wp2_with fail
 (try simp only [Exit.inBlock,Exit.then])
 refine ay (v:=.tuple #[iZ (mA T).1 0,.int .i64 (ya (mA T))]) (by simp [results,Tryz.results53,go_sem,iZ,q0,q1,q2,q3];try rfl) rfl ?_;exact ⟨rfl,kQ (ae HB) (af _) _ _ _ _⟩
theorem Dk (T:ByteArray)(w:World)(_hT:T.size<=300)(h0:0<T.size)(hl:ct T[0]=false)(hd:cD T[0]=false)(hq:¬T[0].toNat=39)(hg:vy w):Calls Tryz.prog 53 #[.string T] w λe w'=>
 e=.returned (.tuple #[iZ (mV T h0).1 0,.int .i64 (ya (mV T h0))])/\Below w.heap.size w w':=by
 have iw:Below w.heap.size w (w.alloc (.cells #[.int .i64 0,.int .i64 0,.string ⟨#[]⟩,.int .i64 0] 102)):=(ag _ _).alloc (af _) _;have IG:=hg.below iw hg.size;have hz:=IG.size;have HC:=hide (Hk T.data.toList _ h0 IG.spelt (by omega));have wE:=hide iw;have he:T.toList.isEmpty=false:=uI T h0;have zS:jU T[0].toNat=false:=hl;have hd':lY T[0].toNat=false:=hd;have Co:((T[0].toNat:Int)==39)=false:=by rw [aj];omega
 clear iw IG hg hz;go_enter Tryz.func53,Tryz.ntmps53;go_wp2_with (first|(go_at_call 69;refine (mU _ _).mono ?_;rintro r' w' ⟨rfl,rfl⟩)|(go_at_call 71;refine (ot _ _).mono ?_;rintro r' w' ⟨rfl,rfl⟩));refine (ae HC).mono ?_;rintro r w1 ⟨rfl,hb⟩;have bW:w1.heap[w.heap.size]?=some (.cells #[.int .i64 0,.int .i64 0,.string ⟨#[]⟩,.int .i64 0] 102 (0,0)):=(hb.block w.heap.size (by simp)).trans (ai w _);obtain ⟨q0,q1,q2,q3⟩:=bD bW;have z0:=aK bW 0;have z1:=aK bW 1;have z2:=aK bW 2;have z3:=aK bW 3;have HB:=hide ((ae wE).trans (hb.mono (by simp)));clear hb bW;unfold iZ;go_wp2_with fail
 (try simp only [Exit.inBlock,Exit.then])
 refine ay (v:=.tuple #[iZ (mV T h0).1 0,.int .i64 (ya (mV T h0))]) (by simp [results,Tryz.results53,go_sem,iZ,q0,q1,q2,q3];try rfl) rfl ?_;exact ⟨rfl,kQ (ae HB) (af _) _ _ _ _⟩
theorem Dl (w:World):Calls Tryz.prog 53 #[.string ⟨#[]⟩] w λe w'=>
 e=.returned (.tuple #[iZ .stop 0,.int .i64 0])/\Below w.heap.size w w':=by
 go_enter Tryz.func53,Tryz.ntmps53;go_wp2_with fail
 (try simp only [Exit.inBlock,Exit.then])
 refine ay (v:=.tuple #[iZ .stop 0,.int .i64 0]) (by simp [results,Tryz.results53,go_sem,iZ,aB,bn,dt];try rfl) rfl ?_;exact ⟨rfl,(ag _ _).alloc (af _) _⟩
theorem Fj (T:ByteArray)(w:World)(hT:T.size<=300)(hg:vy w):Calls Tryz.prog 53 #[.string T] w λe w'=>
 e=.returned (.tuple #[iZ (ie T).1 0,.int .i64 (ya (ie T))])/\Below w.heap.size w w':=by
 by_cases h0:0<T.size
 . have e0:ie T=(if ct T[0] then oc T else if cD T[0] then qo T else if T[0].toNat=39 then mA T else mV T h0):=iX h0
   cases hl:ct T[0] with
   |true=>
     rw [e0,aH hl];exact Dj T w hT h0 hl hg
   |false=>
     rw [e0,aA (by rw [hl];decide)];by_cases hd:cD T[0]=true
     . rw [aH hd];exact Fh T w hT h0 hl hd hg
     . rw [aA hd]
       have hd:cD T[0]=false:=by simpa using hd
       by_cases hq:T[0].toNat=39
       . rw [aH hq];exact Fi T w hT h0 hl hd hq hg
       . rw [aA hq];exact Dk T w hT h0 hl hd hq hg
 . have e0:ie T=(.stop,0):=nr h0
   have e1:T=⟨#[]⟩:=by
    apply Kr;have:T.data.toList.length=0:=by rw [oi];omega
    rw [fT this]
   rw [e0,e1];exact Dl w
theorem kB (S:ByteArray)(j:Nat):(S.extract j S.size).size=S.size - j:=by rw [cH];omega
theorem uJ (S:ByteArray)(f:UInt8->Bool)(j k:Nat)(h:j+k<=S.size):j+aM (S.extract j S.size) f k=aM S f (j+k):=by
 rw [BN S f (j+k) h,BN (S.extract j S.size) f k (by rw [kB];omega),Kq,rL];omega
theorem xE (S:ByteArray)(j k:Nat)(h:j+k<S.size):(S.extract j S.size)[k]'(by rw [kB];omega)=S[j+k]:=by
 have h1:=Mj (S.extract j S.size) k (by rw [kB];omega);rw [Kq,gx,Mj S (j+k) h] at h1;exact (aS h1).symm
theorem tH (S:ByteArray)(j a b:Nat):(S.extract j S.size).extract a b=S.extract (j+a) (j+b):=by
 apply Kr;rw [fJ,jd,fM,Kq,fJ,jd,fM,rL];congr 1;omega
theorem Fl (S:ByteArray)(j:Nat)(h:j<S.size)(h':0<(S.extract j S.size).size):ej (S.extract j S.size) 0 h'=ej S j h:=by
 unfold ej;have e0:(S.extract j S.size)[0]=S[j]:=xE S j 0 h;have e1:(if h2:0+1<(S.extract j S.size).size then (S.extract j S.size)[0+1].toNat else 0)=(if h2:j+1<S.size then S[j+1].toNat else 0):=by
  by_cases h2:j+1<S.size
  . rw [iX h2,iX (by rw [kB];omega)]
    exact aU UInt8.toNat (xE S j 1 h2)
  . rw [nr h2,nr (by rw [kB];omega)]
 simp only [e0,e1]
theorem SU (S:ByteArray)(j:Nat)(h:j<S.size):(ie (S.extract j S.size)).1=(eV S j h).1/\((eV S j h).1.ends=false->j+(ie (S.extract j S.size)).2=(eV S j h).2):=by
 have hp:0<(S.extract j S.size).size:=by rw [kB];omega
 have e0:(S.extract j S.size)[0]=S[j]:=xE S j 0 h;unfold ie;rw [iX hp,e0];unfold eV;by_cases hl:ct S[j]=true
 . rw [aH hl,aH hl]
   have hs:=uJ S ct j 0 (by omega);have hle:=fj S ct j (by omega);have hx:=tH S j 0 (aM (S.extract j S.size) ct 0);rw [iY] at hs hx;rw [hs] at hx;unfold oc;rw [hx];simp only;by_cases h8:8<aM S ct j - j
   . rw [aH h8,aH (by omega)]
     exact ⟨rfl,λh=>absurd (show true=false from h) (by decide)⟩
   . rw [aA h8,aA (by omega)]
     split
     . exact ⟨rfl,λ_=>hs⟩
     . exact ⟨rfl,λ_=>hs⟩
 . rw [aA hl,aA hl]
   by_cases hd:cD S[j]=true
   . rw [aH hd,aH hd]
     have hs:=uJ S cD j 0 (by omega);have hle:=fj S cD j (by omega);have hx:=tH S j 0 (aM (S.extract j S.size) cD 0);rw [iY] at hs hx;rw [hs] at hx;unfold qo;rw [hx];simp only;by_cases h19:19<aM S cD j - j\/9223372036854775807<lM (S.extract j (aM S cD j)).data.toList
     . rw [aH h19,aH (by omega)]
       exact ⟨rfl,λh=>absurd (show true=false from h) (by decide)⟩
     . rw [aA h19,aA (by omega)]
       exact ⟨rfl,λ_=>hs⟩
   . rw [aA hd,aA hd]
     by_cases hq:S[j].toNat=39
     . rw [aH hq,aH hq]
       have hs:=uJ S eE j 1 (by omega);have hle:=fj S eE (j+1) (by omega);unfold mA;simp only;by_cases h2:aM S eE (j+1)<S.size
       . have Bv:aM (S.extract j S.size) eE 1<(S.extract j S.size).size:=by rw [kB];omega
         rw [iX h2,iX Bv];have hg:(S.extract j S.size)[aM (S.extract j S.size) eE 1]=S[aM S eE (j+1)]:=by
          have:=xE S j (aM (S.extract j S.size) eE 1) (by omega);rw [this];congr 1
         rw [hg];by_cases hc:S[aM S eE (j+1)].toNat=39/\aM S eE (j+1) - j - 1<=12
         . rw [aH hc,aH ⟨hc.1,by omega⟩]
           have hx:=tH S j 1 (aM (S.extract j S.size) eE 1);rw [hs] at hx;rw [hx];exact ⟨rfl,λ_=>by simp only;omega⟩
         . rw [aA hc,aA (λhh=>hc ⟨hh.1,by omega⟩)]
           exact ⟨rfl,λh=>absurd (show true=false from h) (by decide)⟩
       . rw [nr h2,nr (by rw [kB];omega)]
         exact ⟨rfl,λh=>absurd (show true=false from h) (by decide)⟩
     . rw [aA hq,aA hq]
       unfold mV;rw [Fl S j h hp];simp only;by_cases hn:ej S j h=0
       . rw [aH hn,aH hn]
         exact ⟨rfl,λh=>absurd (show true=false from h) (by decide)⟩
       . rw [aA hn,aA hn]
         have hle:=yK S j h;have hx:=tH S j 0 (ej S j h);rw [iY] at hx;rw [hx];exact ⟨rfl,λ_=>rfl⟩
end Go.Proofs.YteniahoehoncjaaGreatDoor
