import Derived.Test.YteniahoehoncjaaGreatDoorQAG
import Derived.Test.YteniahoehoncjaaGreatDoorQAF
set_option maxHeartbeats 99999999
set_option maxRecDepth 100000
namespace Go.Proofs.YteniahoehoncjaaGreatDoor
open Go.RowKit
def wO (l:List Tok):List Value:=l.flatMap λt=>Rh t.k t.pl
theorem SW (l:List Tok)(t:Tok):wO (l++[t])=wO l++Rh t.k t.pl:=by simp [wO]
theorem ahV (k:Tk)(pl:Nat):∀u∈Rh k pl,u.oneCell'=true:=by
 intro u hu;simp [Rh] at hu;rcases hu with rfl|rfl|rfl|rfl<;>rfl
theorem Tryz.SX:(Tryz.prog.info? 102).map (λi=>(i.zero,i.size,i.bytes))=some (some (.agg #[.int .i64 0,.int .i64 0,.string ByteArray.empty,.int .i64 0]),4,40):=by kernel_rfl
theorem uK {P:Program}{t:TypeId}{z:Value}{sz by':Nat}(h:(P.info? t).map (λi=>(i.zero,i.size,i.bytes))=some (some z,sz,by')):∃i,P.info? t=some i/\i.zero=some z/\i.size=sz/\i.bytes=by':=by
 cases hi:P.info? t with
 |none=>rw [hi] at h;cases h
 |some i=>
   rw [hi] at h;simp at h;exact ⟨i,rfl,h.1,h.2.1,h.2.2⟩
theorem Mp (S:ByteArray)(i:Nat)(h:i<S.size)(he:(eV S i h).1.ends=true):(eV S i h).1=.bad:=by
 revert he;unfold eV;simp only
 repeat' split
 all_goals intro he
 all_goals first|rfl|(simp [Tk.ends] at he)
theorem jQ {K:Nat->Prop}{w w':World}{base:Nat}{e:TypeId}{size:Nat}{v:Value}{n:Nat}{xs:List Value}(h:w.ownsRow base e size v n xs)(hk:aQ K w w')(hK:∀g,v.ownBlock=some g->K g):w'.ownsRow base e size v n xs:=by
 refine ⟨h.1,?_⟩;rcases h.2 with h2|⟨g,cap,cur,hv,hg,hc,r⟩
 . exact .inl h2
 . exact .inr ⟨g,cap,cur,hv,hg,(hk.block g (hK g (by rw [hv];rfl))).trans hc,r⟩
theorem kI {w:World}{base:Nat}{e:TypeId}{size:Nat}{v:Value}{n:Nat}{xs:List Value}(h:w.ownsRow base e size v n xs):∃a c,v=.slice a n c:=by
 rcases h.2 with ⟨h1,h2⟩|⟨g',c',_,h1,_⟩
 . exact ⟨_,_,by rw [h1,h2]⟩
 . exact ⟨_,_,h1⟩
theorem SY {k:Tk}(h:k.ends=true):aB k=0\/aB k=1:=by
 cases k<;>first|exact .inl rfl|exact .inr rfl|(simp [Tk.ends] at h)
theorem SZ {k:Tk}(h:k.ends=false):2<=aB k:=by
 cases k<;>first|(simp [Tk.ends] at h;done)|(simp only [aB];omega)
theorem Ta (S:ByteArray)(i:Nat)(hi:i<=S.size):∃k,k=(ie (S.extract (aM S bU i) S.size)).1/\((k.ends=true/\dB S i=[⟨k,aM S bU i⟩])\/(k.ends=false/\dB S i=⟨k,aM S bU i⟩::dB S (aM S bU i+(ie (S.extract (aM S bU i) S.size)).2)/\i<aM S bU i+(ie (S.extract (aM S bU i) S.size)).2/\aM S bU i+(ie (S.extract (aM S bU i) S.size)).2<=S.size)):=by
 refine ⟨_,rfl,?_⟩;have hge:=fg S bU i;have hle:=fj S bU i hi;by_cases hj:aM S bU i<S.size
 . obtain ⟨e1,e2⟩:=SU S (aM S bU i) hj
   rw [e1];by_cases jz:(eV S (aM S bU i) hj).1.ends=true
   . refine .inl ⟨jz,?_⟩
     rw [dB];simp only [dif_pos hj,dif_pos jz];rw [Mp S _ hj jz]
   . have Mq:(eV S (aM S bU i) hj).1.ends=false:=by simpa using jz
     have hgt:=qZ S _ hj Mq;refine .inr ⟨Mq,?_,by rw [e2 Mq];omega,by rw [e2 Mq];exact hgt.2⟩;rw [e2 Mq,dB];simp only [dif_pos hj,dif_neg jz]
 . have hz:aM S bU i=S.size:=by omega
   have e0:ie (S.extract (aM S bU i) S.size)=(.stop,0):=nr (by rw [kB];omega);rw [e0];refine .inl ⟨rfl,?_⟩;rw [dB];simp only [dif_neg hj];rw [hz]
theorem Pf (S:ByteArray)(w:World)(hS:S.size<=300)(hg:vy w):Calls Tryz.prog 38 #[.string S] w λe w'=>
 ∃v,e=.returned v/\w'.ownsRow w.heap.size 102 4 v (dB S 0).length (wO (dB S 0))/\Below w.heap.size w w':=by
 obtain ⟨i0,hi,jS,jD,jv⟩:=uK Tryz.SX;have HG:=hide hg;clear hg;go_enter Tryz.func38,Tryz.ntmps38;go_wp2_with fail;go_loopw [3,4] (λv c wr=>∃(i:Nat) (l:List Tok),c=.int .i64 i/\i<=S.size/\l.length<=i/\Hid (wr.ownsRow w.heap.size 102 4 v l.length (wO l))/\Hid (l++dB S i=dB S 0)/\Hid (Below w.heap.size w wr)) (λ_ c _=>S.size - (intOf c).toNat)
 case atStart=>exact ⟨0,[],rfl,aN _,af _,hide (ia _ _ _ _),hide rfl,hide (ag _ _)⟩
 case round=>
  obtain ⟨i,l,rfl,Ot,hl,HO,HT,HB⟩:=hrel;obtain ⟨T1,hT1⟩:∃T,T=S.extract i S.size:=⟨_,rfl⟩;have Zq:∀w,(Instr.slice 9 (.string S) (some (.int .i64 i)) none none).run Tryz.prog w=.ok (.string T1) w:=λw=>by rw [hT1];exact ru w 9 S Tryz.underlying9 i Ot
  have ans:T1.size<=300:=by rw [hT1,kB];omega
  obtain ⟨j,hj⟩:∃j,j=aM S bU i:=⟨_,rfl⟩;have VK:=fg S bU i;have hjS:=fj S bU i Ot;have Dd:=uJ S bU i 0 Ot;rw [iY,<- hT1,<- hj] at Dd;rw [<- hj] at VK hjS;obtain ⟨T2,hT2⟩:∃T,T=S.extract j S.size:=⟨_,rfl⟩;have LN:∀w,(Instr.slice 9 (.string S) (some (.int .i64 j)) none none).run Tryz.prog w=.ok (.string T2) w:=λw=>by rw [hT2];exact ru w 9 S Tryz.underlying9 j hjS
  have Wo:T2.size<=300:=by rw [hT2,kB];omega
  obtain ⟨k,hk,Wp⟩:=Ta S i Ot;rw [<- hj,<- hT2] at hk Wp;obtain ⟨b,hb⟩:∃b,b=aM T1 bU 0:=⟨_,rfl⟩;have fN:=Pb T1 wr ans;rw [<- hb] at fN Dd;have atn:(i:Int)+b=j:=by omega
  have L7:=hide fN;have hft:=Fj T2 wr Wo ((ae HG).below (ae HB) (ae HG).size);rw [<- hk] at hft;have HFT:=hide hft;have HK:=hide hk;have pC:=hide Wp;clear fN hft hk Wp hj hb hT1 hT2 Dd;go_wp2_with (go_at_call 52;refine (ae L7).mono ?_;rintro r' w' ⟨rfl,rfl⟩);refine (ae HFT).mono ?_;rintro r w1 ⟨rfl,bL⟩;have eI:=hide (((ae HB).trans (bL.mono (ae HB).size)));have Z9:=hide (jQ (ae HO) (aQ.vU bL) (λg hg=>((ae HO).lt g hg).2));obtain ⟨va,vc,hv⟩:=kI (ae HO);subst hv;have Le:w.heap.size<=w1.heap.size:=(ae eI).size;have ad7:∀g,(Value.slice va l.length vc).ownBlock=some g->g<w1.heap.size:=λg hg=>((ae Z9).lt g hg).2;have IE:=hide (((ae Z9).alloc (.cells #[.int .i64 (aB k),.int .i64 j,.string (bn k),.int .i64 (dt k)] 102 (0,0))).alloc (.cells #[.int .i64 (aB k),.int .i64 j,.string (bn k),.int .i64 (dt k)] 102 (0,0)));have yO:((w1.alloc (.cells #[.int .i64 (aB k),.int .i64 j,.string (bn k),.int .i64 (dt k)] 102 (0,0))).alloc (.cells #[.int .i64 (aB k),.int .i64 j,.string (bn k),.int .i64 (dt k)] 102 (0,0))).heap[w1.heap.size+1]?=some (.cells #[.int .i64 (aB k),.int .i64 j,.string (bn k),.int .i64 (dt k)] 102 (0,0)):=by
   have:=ai (w1.alloc (.cells #[.int .i64 (aB k),.int .i64 j,.string (bn k),.int .i64 (dt k)] 102 (0,0))) (.cells #[.int .i64 (aB k),.int .i64 j,.string (bn k),.int .i64 (dt k)] 102 (0,0))
   rwa [show (w1.alloc (.cells #[.int .i64 (aB k),.int .i64 j,.string (bn k),.int .i64 (dt k)] 102 (0,0))).heap.size=w1.heap.size+1 from by simp] at this
  have Gv:=hide (World.news_of_block yO);have hold:((w1.alloc (.cells #[.int .i64 (aB k),.int .i64 j,.string (bn k),.int .i64 (dt k)] 102 (0,0))).alloc (.cells #[.int .i64 (aB k),.int .i64 j,.string (bn k),.int .i64 (dt k)] 102 (0,0))).heap[w1.heap.size]?=some (.cells #[.int .i64 (aB k),.int .i64 j,.string (bn k),.int .i64 (dt k)] 102 (0,0)):=(bA _ _ _ (by simp)).trans (ai w1 _);have HOLD:=hide hold;clear bL yO hold;unfold iZ;go_wp2_with (at_builtin;refine cA _ rfl _ _ 95 rfl w.heap.size 102 i0 _ 4 40 Tryz.underlying95 hi jS jD jv rfl (by decide) _ _ _ rfl (ae IE) ⟨w1.heap.size+1,0,none⟩ 1 1 (Rh k j) rfl rfl (ae Gv) (ahV k j) (by decide) ?c3 ?c4 ?c5 ?_)
  case c3=>unfold maxLen;omega
  case c4=>omega
  case c5=>simp;omega
  intro g cap w5 br bE bW;have vz:w5.heap[w1.heap.size]?=some (.cells #[.int .i64 (aB k),.int .i64 j,.string (bn k),.int .i64 (dt k)] 102 (0,0)):=(bE.block w1.heap.size (by simp;omega) (λe=>by have:=ad7 _ e.symm;omega)).trans (ae HOLD);obtain ⟨u0,-,-,-⟩:=bD vz;have HO5:=hide (show w5.ownsRow w.heap.size 102 4 (.slice (some ⟨g,0,none⟩) (l.length+1) cap) (l++[(⟨k,j⟩:Tok)]).length (wO (l++[(⟨k,j⟩:Tok)])) from by
   rw [au,SW];exact br)
  have vR:=hide (show Below w.heap.size w w5 from by
   have qR:Below w.heap.size w1 ((w1.alloc (.cells #[.int .i64 (aB k),.int .i64 j,.string (bn k),.int .i64 (dt k)] 102 (0,0))).alloc (.cells #[.int .i64 (aB k),.int .i64 j,.string (bn k),.int .i64 (dt k)] 102 (0,0))):=((ag _ _).alloc Le _).alloc (by simp;omega) _;have vN:Below w.heap.size ((w1.alloc (.cells #[.int .i64 (aB k),.int .i64 j,.string (bn k),.int .i64 (dt k)] 102 (0,0))).alloc (.cells #[.int .i64 (aB k),.int .i64 j,.string (bn k),.int .i64 (dt k)] 102 (0,0))) w5:=⟨bE.os,bE.tape,bE.output,bE.size,λq hq=>bE.block q (by simp;omega) (λe=>by have:=((ae Z9).lt q e.symm).1;omega)⟩;exact ((ae eI).trans qR).trans vN)
  clear br bE bW vz;rcases ae pC with ⟨jz,nS⟩|⟨jz,nS,cF,hle⟩
  . have jZ:l++[⟨k,j⟩]=dB S 0:=by rw [<- ae HT,nS]
    have HF:=hide jZ;have YO:aB k=0\/aB k=1:=SY jz;clear jZ nS;rcases YO with YO|YO
    . have e0:((aB k:Int)==0)=true:=by rw [bz];omega
      go_wp2_with fail;go_ret;refine ⟨_,rfl,?_,ae vR⟩;rw [<- ae HF];exact ae HO5
    . have e0:((aB k:Int)==0)=false:=by rw [aj];omega
      have e1:((aB k:Int)==1)=true:=by rw [bz];omega
      go_wp2_with fail;go_ret;refine ⟨_,rfl,?_,ae vR⟩;rw [<- ae HF];exact ae HO5
  . have YO:2<=aB k:=SZ jz
    have e0:((aB k:Int)==0)=false:=by rw [aj];omega
    have e1:((aB k:Int)==1)=false:=by rw [aj];omega
    have hlp:ya (ie T2)=(ie T2).2:=by
     unfold ya;rw [<- ae HK,aA (by rw [jz];decide)]
    have HTN:=hide (show (l++[⟨k,j⟩])++dB S (j+(ie T2).2)=dB S 0 from by rw [<- ae HT,nS,bh];rfl);obtain ⟨n,hn⟩:∃n,n=ya (ie T2):=⟨_,rfl⟩;rw [<- hlp,<- hn] at cF hle;obtain ⟨q,hq⟩:∃q,q=j+n:=⟨_,rfl⟩;have ad8:(j:Int)+n=q:=by omega
    rw [<- hq] at cF hle;have HQ:=hide hq;have HN:=hide (hn.trans hlp);rw [<- hn];clear hlp nS hn hq;go_wp2_with fail;go_roundw
    case rel=>
     refine ⟨q,l++[⟨k,j⟩],by first|rfl|go_num,hle,by simp;omega,HO5,?_,vR⟩;have:=ae HTN;rw [<- ae HN,<- ae HQ] at this;exact hide this
    case measure=>simp [intOf];omega
structure cB where
 v:Value
 pos:Nat
 depth:Nat
 e:Nat
 b:Nat
def mK (x:cB):Array Value:=#[x.v,.int .i64 x.pos,.int .i64 x.depth,.int .i64 x.e,.int .i64 x.b]
def Pg (w:World)(p:Nat)(x:cB):Prop:=w.heap[p]?=some (.cells (mK x) 98 (0,0))
theorem Pg.cell {w:World}{p:Nat}{x:cB}(h:Pg w p x)(i:Nat):w.cell? ⟨p,i,none⟩=(mK x)[i]?:=by
 unfold Pg at h;simp [World.cell?,h]
theorem Pg.fz {w:World}{p:Nat}{x:cB}(h:Pg w p x)(i:Nat):w.frozen? ⟨p,i,none⟩=false:=by
 unfold Pg at h;simp [World.frozen?,h]
theorem Pg.lt {w:World}{p:Nat}{x:cB}(h:Pg w p x):p<w.heap.size:=fK h
theorem Pg.set {w:World}{p:Nat}{x y:cB}(h:Pg w p x)(i:Nat)(v:Value)(he:(mK x).setIfInBounds i v=mK y):Pg (w.setCell ⟨p,i,none⟩ v) p y:=by
 unfold Pg;rw [<- he];exact aO w p i _ _ v h
def qJ (x:cB)(l:List Tok):Mode->Prop
 |.live t ts=>x.e=0/\l.drop x.pos=t::ts
 |.dead e b=>x.e=e/\x.b=b/\e≠0/\l=[⟨.bad,0⟩]/\x.pos=0
def Tk.wf:Tk->Prop
 |.sign s=>s∈ei
 |.word s=>s∈bS
 |.num n=>n<=9223372036854775807
 |_=>True
structure cO (w:World)(p:Nat)(x:cB)(m:Mode)(l:List Tok):Prop where
 bN:Pg w p x
 own:w.ownsRow 0 102 4 x.v l.length (wO l)
 apart:x.v.ownBlock≠some p
 mode:qJ x l m
 few:l.length<=400
 wf:∀t∈l,t.k.wf
 fin:∀t,l.getLast?=some t->t.k.ends=true
theorem Wq (l:List Tok)(k j:Nat)(hj:j<4):(wO l)[k*4+j]?=(l[k]?).bind λt=>(Rh t.k t.pl)[j]?:=by
 induction l generalizing k with
 |nil=>simp [wO]
 |cons x l ih=>
   have e:wO (x::l)=Rh x.k x.pl++wO l:=by simp [wO]
   rw [e]
   cases k with
   |zero=>rw [bQ (by simp [Rh];omega)];simp
   |succ k=>
     rw [bm (by simp [Rh];omega)];have:(k+1)*4+j - (Rh x.k x.pl).length=k*4+j:=by simp [Rh];omega
     rw [this,ih];simp
theorem qJ.cur {x:cB}{l:List Tok}{m:Mode}(h:qJ x l m):l[x.pos]?=some ⟨m.tk,m.place⟩:=by
 cases m with
 |dead e b=>obtain ⟨-,-,-,rfl,h5⟩:=h;rw [h5];rfl
 |live t ts=>
   have e:l[x.pos]?=(l.drop x.pos)[0]?:=by rw [gx];rfl
   rw [e,h.2];rfl
theorem cO.slice {w:World}{p:Nat}{x:cB}{m:Mode}{l:List Tok}(h:cO w p x m l):∃g cap,x.v=.slice (some ⟨g,0,none⟩) l.length cap/\x.pos<l.length/\w.cell? ⟨g,x.pos*4,none⟩=some (.int .i64 (aB m.tk))/\w.cell? ⟨g,x.pos*4+1,none⟩=some (.int .i64 m.place)/\w.cell? ⟨g,x.pos*4+2,none⟩=some (.string (bn m.tk))/\w.cell? ⟨g,x.pos*4+3,none⟩=some (.int .i64 (dt m.tk))/\g<w.heap.size/\g≠p:=by
 have hc:=h.mode.cur;have cF:x.pos<l.length:=(ak.mp hc).1;rcases h.own.2 with ⟨_,h0⟩|⟨g,cap,_,hv,_⟩
 . omega
 . have ho:=h.own
   have ha:=h.apart;rw [hv] at ho ha;have get:∀j (_:j<4),w.cell? ⟨g,x.pos*4+j,none⟩=(Rh m.tk m.place)[j]?:=λj hj=>by
    rw [ho.cellAt (x.pos*4+j) (by omega),Wq l x.pos j hj,hc];rfl
   exact ⟨g,cap,hv,cF,get 0 (by decide),get 1 (by decide),get 2 (by decide),get 3 (by decide),(ho.lt g rfl).2,λe=>ha (by simp [Value.ownBlock,e])⟩
theorem uL {w:World}{p:Nat}{x:cB}{m:Mode}{l:List Tok}(h:cO w p x m l):Calls Tryz.prog 40 #[.pointer (some ⟨p,0,none⟩)] w λr w'=>
 r=.returned (iZ m.tk m.place)/\Below w.heap.size w w':=by
 obtain ⟨g,cap,hv,cF,c0,c1,c2,c3,hg,QJ⟩:=h.slice;have p0:w.cell? ⟨p,0,none⟩=some (.slice (some ⟨g,0,none⟩) l.length cap):=(h.bN.cell 0).trans (by rw [<- hv];rfl);have p1:w.cell? ⟨p,1,none⟩=some (.int .i64 x.pos):=h.bN.cell 1;have jI:(x.pos:Int)<l.length:=by omega
 have QP:=h.bN.lt;have yX:=h.few;clear h;go_enter Tryz.func40,Tryz.ntmps40;go_wp2_with fail;go_region
 all_goals
  (try go_wp2_with fail)
  (try simp only [Exit.inBlock,Exit.then])
  refine ay (v:=iZ m.tk m.place) (by simp [results,Tryz.results40,go_sem,iZ];try rfl) rfl ?_;exact ⟨rfl,aJ ((ag _ _).alloc (af _) _)⟩
theorem aQ.cQ {p:Nat}{w w':World}(hb:Below w.heap.size w w'):aQ (Other p w) w w':=⟨hb.os,hb.tape,hb.output,hb.size,λk hk=>hb.block k hk.2⟩
theorem aQ.mW {p:Nat}{w w':World}(h:aQ (Other p w) w w')(i:Nat)(v:Value):aQ (Other p w) w (w'.setCell ⟨p,i,none⟩ v):=h.setCell (p:=⟨p,i,none⟩) (λh=>h.1 rfl) v
theorem aQ.dz {p:Nat}{a b c:World}(h:aQ (Other p a) a b)(k:aQ (Other p b) b c):aQ (Other p a) a c:=
 h.trans (k.mono (λ_ hq=>⟨hq.1,aF hq.2 h.size⟩))
theorem cO.below {w w':World}{p:Nat}{x:cB}{m:Mode}{l:List Tok}(h:cO w p x m l)(hb:Below w.heap.size w w'):cO w' p x m l:=
 ⟨(hb.block p h.bN.lt).trans h.bN,jQ h.own (aQ.vU hb) (λg hg=>(h.own.lt g hg).2),h.apart,h.mode,h.few,h.wf,h.fin⟩
theorem cO.put {w:World}{p:Nat}{x y:cB}{m m':Mode}{l:List Tok}(h:cO w p x m l)(i:Nat)(v:Value)(he:(mK x).setIfInBounds i v=mK y)(hv:y.v=x.v)(hm:qJ y l m'):cO (w.setCell ⟨p,i,none⟩ v) p y m' l:=by
 refine ⟨h.bN.set i v he,?_,by rw [hv];exact h.apart,hm,h.few,h.wf,h.fin⟩;rw [hv];refine h.own.kept (grownBy_setCell w ⟨p,i,none⟩ v) ?_
 cases hb:x.v.ownBlock with
 |none=>exact .inl rfl
 |some g=>exact .inr (by simp;intro e;exact h.apart (by rw [hb,e]))
theorem Tb {x:cB}{l:List Tok}{m:Mode}(h:qJ x l m)(cF:x.pos+1<l.length):qJ { x with pos:=x.pos+1 } l m.next:=by
 cases m with
 |dead e b=>obtain ⟨-,-,-,rfl,h5⟩:=h;rw [h5] at cF;exact absurd cF (by decide)
 |live t ts=>
   obtain ⟨h1,h2⟩:=h;have h3:l.drop (x.pos+1)=ts:=by
    rw [<- rL,h2];rfl
   cases ts with
   |nil=>
     have:=aU List.length h3;rw [cu] at this;simp at this;omega
   |cons u us=>exact ⟨h1,h3⟩
theorem Tc {x:cB}{l:List Tok}{m:Mode}(h:qJ x l m)(cF:¬x.pos+1<l.length):m.next=m:=by
 cases m with
 |dead e b=>rfl
 |live t ts=>
   obtain ⟨h1,h2⟩:=h
   cases ts with
   |nil=>rfl
   |cons u us=>
     have:=aU List.length h2;rw [cu] at this;simp at this;omega
def tI (w:World)(x x':cB):Prop:=∀g,x'.v.ownBlock=some g->x.v.ownBlock=some g\/w.heap.size<=g
structure bI (w w':World)(p:Nat)(x:cB)(m':Mode):Prop where
 ex:∃x' l',cO w' p x' m' l'/\x'.depth=x.depth/\tI w x x'
 keeps:aQ (Other p w) w w'
theorem cO.drewN {w:World}{p:Nat}{x:cB}{m:Mode}{l:List Tok}(h:cO w p x m l)(n:Nat):cO (w.drewN n) p x m l:=⟨h.bN,h.own,h.apart,h.mode,h.few,h.wf,h.fin⟩
theorem cO.other {w:World}{p:Nat}{x:cB}{m:Mode}{l:List Tok}(h:cO w p x m l){r:Nat}(h1:r≠p)(h2:x.v.ownBlock≠some r)(i:Nat)(v:Value):cO (w.setCell ⟨r,i,none⟩ v) p x m l:=
 ⟨(aD _ _ _ _ (Ne.symm h1)).trans h.bN,h.own.kept (grownBy_setCell w ⟨r,i,none⟩ v) (.inr h2),h.apart,h.mode,h.few,h.wf,h.fin⟩
theorem bI.Ph {w w3:World}{p:Nat}{x y:cB}{m':Mode}{l:List Tok}(h:cO w3 p y m' l)(hd:y.depth=x.depth)(hr:tI w x y)(k:aQ (Other p w) w w3)(hp:p<w.heap.size)(ho:∀g,y.v.ownBlock=some g->g≠w.heap.size)(a b c d:Value) :
 bI w ((((w3.setCell ⟨w.heap.size,0,none⟩ a).setCell ⟨w.heap.size,1,none⟩ b).setCell ⟨w.heap.size,2,none⟩ c).setCell ⟨w.heap.size,3,none⟩ d) p x m':=by
 have h1:w.heap.size≠p:=by omega
 have h2:y.v.ownBlock≠some w.heap.size:=λe=>ho _ e rfl;have hn:¬Other p w w.heap.size:=λe=>bx _ e.2;exact ⟨⟨y,l,(((h.other h1 h2 0 a).other h1 h2 1 b).other h1 h2 2 c).other h1 h2 3 d,hd,hr⟩,(((k.setCell (p:=⟨w.heap.size,0,none⟩) hn a).setCell (p:=⟨w.heap.size,1,none⟩) hn b).setCell (p:=⟨w.heap.size,2,none⟩) hn c).setCell (p:=⟨w.heap.size,3,none⟩) hn d⟩
theorem gJ {w:World}{p:Nat}{x:cB}{m:Mode}{l:List Tok}(h:cO w p x m l):Calls Tryz.prog 54 #[.pointer (some ⟨p,0,none⟩)] w λr w'=>
 r=.returned (iZ m.tk m.place)/\bI w w' p x m.next:=by
 have iw:Below w.heap.size w (w.alloc (.cells #[.int .i64 0,.int .i64 0,.string ⟨#[]⟩,.int .i64 0] 102)):=(ag _ _).alloc (af _) _;have H0:=hide (h.below iw);have wE:=hide iw;have eB:=h.bN.lt;have HGL:=hide (λg (hg:x.v.ownBlock=some g)=>vh (h.own.lt g hg).2);clear h iw;go_enter Tryz.func54,Tryz.ntmps54;go_wp2_with fail;refine (uL (ae H0)).mono ?_;rintro r w1 ⟨rfl,bL⟩;obtain ⟨w2,Pj⟩:∃w2,w2=w1.alloc (.cells #[.int .i64 (aB m.tk),.int .i64 m.place,.string (bn m.tk),.int .i64 (dt m.tk)] 102 (0,0)):=⟨_,rfl⟩;have YC:Below w.heap.size w w1:=(ae wE).trans (bL.mono (by simp));have bO:Below w1.heap.size w1 w2:=by rw [Pj];exact (ag _ _).alloc (af _) _
 have h2:=((ae H0).below bL).below bO;have fN:w2.heap[w1.heap.size]?=some (.cells #[.int .i64 (aB m.tk),.int .i64 m.place,.string (bn m.tk),.int .i64 (dt m.tk)] 102 (0,0)):=by rw [Pj];exact ai w1 _
 have Ks:w2.heap[w.heap.size]?=some (.cells #[.int .i64 0,.int .i64 0,.string ⟨#[]⟩,.int .i64 0] 102 (0,0)):=(bO.block w.heap.size (by have:=bL.size;simp at this;omega)).trans ((bL.block w.heap.size (by simp)).trans (ai w _));obtain ⟨t0,t1,t2,t3⟩:=bD fN;obtain ⟨q0,q1,q2,q3⟩:=bD Ks;have z0:=aK Ks 0;have z1:=aK Ks 1;have z2:=aK Ks 2;have z3:=aK Ks 3;obtain ⟨g,cap,hv,cF,-⟩:=h2.slice;have p0:w2.cell? ⟨p,0,none⟩=some (.slice (some ⟨g,0,none⟩) l.length cap):=(h2.bN.cell 0).trans (by rw [<- hv];rfl);have p1:w2.cell? ⟨p,1,none⟩=some (.int .i64 x.pos):=h2.bN.cell 1;have f1:=h2.bN.fz 1;have yX:=h2.few;have hpr:¬(p=w.heap.size):=by omega
 have kd:w.heap.size<w1.heap.size:=by have:=bL.size;simp at this;omega
 have iq:¬(w1.heap.size=w.heap.size):=by omega
 have aac:¬(w1.heap.size=p):=by omega
 have atq:¬(p=w1.heap.size):=by omega
 have jg:=hide (YC.trans (bO.mono YC.size));have H2:=hide h2;have vG:=hide Pj;clear bL YC bO h2 fN Ks Pj hv;unfold iZ;by_cases nT:x.pos+1<l.length
 . have hm1:(x.pos:Int)<(l.length:Int) - 1:=by omega
   go_wp2_with fail;rw [<- ae vG];go_quiet (fail);go_wp2_with fail
   (try simp only [Exit.inBlock,Exit.then])
   refine ay (v:=iZ m.tk m.place) (by simp [results,Tryz.results54,go_sem,iZ,q0,q1,q2,q3];try rfl) rfl ?_;have kk:=(aQ.drewN (aQ.cQ (p:=p) (ae jg)) nq).mW 1 (.int .i64 ((x.pos:Int)+1));exact ⟨rfl,bI.Ph (x:=x) (((ae H2).drewN nq).put (y:={ x with pos:=x.pos+1 }) 1 (.int .i64 ((x.pos:Int)+1)) (by simp [mK]) rfl (Tb (ae H2).mode nT)) rfl (λ_ h=>.inl h) kk eB (ae HGL) _ _ _ _⟩
 . have hm1:¬(x.pos:Int)<(l.length:Int) - 1:=by omega
   have HN:=hide (Tc (ae H2).mode nT);go_wp2_with fail;rw [<- ae vG];go_quiet (fail);go_wp2_with fail
   (try simp only [Exit.inBlock,Exit.then])
   refine ay (v:=iZ m.tk m.place) (by simp [results,Tryz.results54,go_sem,iZ,q0,q1,q2,q3];try rfl) rfl ?_;have kk:=aQ.drewN (aQ.cQ (p:=p) (ae jg)) nq;rw [ae HN];exact ⟨rfl,bI.Ph (x:=x) ((ae H2).drewN nq) rfl (λ_ h=>.inl h) kk eB (ae HGL) _ _ _ _⟩
theorem oM (e b:Nat)(w:World):Calls Tryz.prog 22 #[.agg #[.int .i64 e,.int .i64 b]] w λr w'=>r=.returned (.bool (decide (e≠0)))/\Below w.heap.size w w':=by
 by_cases he:e=0
 . have zT:((e:Int) != 0)=false:=by rw [he];rfl
   go_enter Tryz.func22,Tryz.ntmps22;go_wp2_with fail;go_ret;refine ⟨by simp [he],(ag _ _).alloc (af _) _⟩
 . have zT:((e:Int) != 0)=true:=by rw [gy];omega
   go_enter Tryz.func22,Tryz.ntmps22;go_wp2_with fail;go_ret;refine ⟨by simp [he],(ag _ _).alloc (af _) _⟩
theorem cO.lost {w wp:World}{p:Nat}{x y:cB}(hp:Pg wp p y)(he:y.e≠0)(h0:y.pos=0)(hv:y.v=.slice (some ⟨wp.heap.size,0,none⟩) 1 1)(hd:y.depth=x.depth)(k:aQ (Other p w) w wp) :
 bI w (wp.alloc (.cells #[.int .i64 1,.int .i64 0,.string ⟨#[]⟩,.int .i64 0] 102)) p x (.dead y.e y.b):=by
 refine ⟨⟨y,[⟨.bad,0⟩],⟨(bA _ _ _ hp.lt).trans hp,?_,?_,⟨rfl,rfl,he,rfl,h0⟩,by simp,λt ht=>?_,λt ht=>?_⟩,hd,λg hg=>?_⟩,k.alloc (λq hq=>aF hq.2 k.size) _⟩
 . rw [hv]
   exact ⟨by simp [wO,Rh],.inr ⟨wp.heap.size,1,#[.int .i64 1,.int .i64 0,.string ⟨#[]⟩,.int .i64 0],rfl,aN _,ai wp _,by simp,by decide,by simp,by simp [wO,Rh,aB,bn,dt]⟩⟩
 . rw [hv]
   have:=hp.lt;simp [Value.ownBlock];omega
 . rw [dy] at ht
   subst ht;trivial
 . cases ht
   rfl
 . rw [hv] at hg
   simp [Value.ownBlock] at hg;have:=k.size;exact .inr (by omega)
theorem Td {x:cB}{l:List Tok}{m:Mode}(h:qJ x l m)(hx:x.e=0)(e b:Nat):m.fail e b=.dead e b:=by
 cases m with
 |dead e' b'=>obtain ⟨h1,-,h3,-⟩:=h;exact absurd (h1.symm.trans hx) h3
 |live t ts=>rfl
theorem Te {x:cB}{l:List Tok}{m:Mode}(h:qJ x l m)(hx:¬x.e=0)(e b:Nat):m.fail e b=.dead x.e x.b:=by
 cases m with
 |dead e' b'=>obtain ⟨h1,h2,-⟩:=h;rw [h1,h2];rfl
 |live t ts=>exact absurd h.1 hx
theorem Rj {w:World}{p:Nat}{x:cB}{m:Mode}{l:List Tok}(h:cO w p x m l)(e b:Nat)(he:e≠0):Calls Tryz.prog 61 #[.pointer (some ⟨p,0,none⟩),.agg #[.int .i64 e,.int .i64 b]] w λr w'=>
 r=.returned (.tuple #[])/\bI w w' p x (m.fail e b):=by
 have eB:=h.bN.lt;have iw:Below w.heap.size w (w.alloc (.cells #[.int .i64 e,.int .i64 b] 72)):=(ag _ _).alloc (af _) _;have h0:=h.below iw;have p3:(w.alloc (.cells #[.int .i64 e,.int .i64 b] 72)).cell? ⟨p,3,none⟩=some (.int .i64 x.e):=h0.bN.cell 3;have p4:(w.alloc (.cells #[.int .i64 e,.int .i64 b] 72)).cell? ⟨p,4,none⟩=some (.int .i64 x.b):=h0.bN.cell 4;have H0:=hide h0;have wE:=hide iw;clear h iw h0;by_cases hx:x.e=0
 . have HX:=hide hx
   clear hx;go_enter Tryz.func61,Tryz.ntmps61;go_wp2_with fail;refine (oM x.e x.b _).mono ?_;rintro r w1 ⟨rfl,bL⟩;have h1:=(ae H0).below bL;have H1:=hide h1;have hd:decide (x.e≠0)=false:=by simp [ae HX]
   have c0:w1.cell? ⟨p,0,none⟩=some x.v:=h1.bN.cell 0;have c1:w1.cell? ⟨p,1,none⟩=some (.int .i64 x.pos):=h1.bN.cell 1;have c3:w1.cell? ⟨p,3,none⟩=some (.int .i64 x.e):=h1.bN.cell 3;have c4:w1.cell? ⟨p,4,none⟩=some (.int .i64 x.b):=h1.bN.cell 4;have f0:=h1.bN.fz 0;have f1:=h1.bN.fz 1;have f3:=h1.bN.fz 3;have f4:=h1.bN.fz 4;have fN:w1.heap[w.heap.size]?=some (.cells #[.int .i64 e,.int .i64 b] 72 (0,0)):=(bL.block w.heap.size (by simp)).trans (ai w _);have u0:w1.cell? ⟨w.heap.size,0,none⟩=some (.int .i64 e):=by simp [World.cell?,fN]
   have u1:w1.cell? ⟨w.heap.size,1,none⟩=some (.int .i64 b):=by simp [World.cell?,fN]
   have eI:=hide ((ae wE).trans (bL.mono (by simp)));have QR:=h1.bN.lt;rw [hd];clear bL h1 fN;go_wp2_with fail;go_end0;refine ⟨rfl,?_⟩;have h1:=ae H1;rw [Td h1.mode (ae HX)];have k1:=((((aQ.cQ (p:=p) (ae eI)).mW 3 (.int .i64 e)).mW 4 (.int .i64 b)).mW 0 (.slice (some ⟨w1.heap.size,0,none⟩) 1 1)).mW 1 (.int .i64 0);exact cO.lost (y:=⟨.slice (some ⟨w1.heap.size,0,none⟩) 1 1,0,x.depth,e,b⟩) ((((h1.bN.set (y:=⟨x.v,x.pos,x.depth,e,x.b⟩) 3 _ (by simp [mK])).set (y:=⟨x.v,x.pos,x.depth,e,b⟩) 4 _ (by simp [mK])).set (y:=⟨.slice (some ⟨w1.heap.size,0,none⟩) 1 1,x.pos,x.depth,e,b⟩) 0 _ (by simp [mK])).set 1 _ (by simp [mK])) he rfl (by simp [World.setCell]) rfl k1
 . have HX:=hide hx
   clear hx;go_enter Tryz.func61,Tryz.ntmps61;go_wp2_with fail;refine (oM x.e x.b _).mono ?_;rintro r w1 ⟨rfl,bL⟩;have h1:=(ae H0).below bL;have H1:=hide h1;have hd:decide (x.e≠0)=true:=by simp [ae HX]
   have c0:w1.cell? ⟨p,0,none⟩=some x.v:=h1.bN.cell 0;have c1:w1.cell? ⟨p,1,none⟩=some (.int .i64 x.pos):=h1.bN.cell 1;have f0:=h1.bN.fz 0;have f1:=h1.bN.fz 1;have eI:=hide ((ae wE).trans (bL.mono (by simp)));have QR:=h1.bN.lt;rw [hd];clear bL h1;go_wp2_with fail;go_end0;refine ⟨rfl,?_⟩;have h1:=ae H1;rw [Te h1.mode (ae HX)];have k1:=((aQ.cQ (p:=p) (ae eI)).mW 0 (.slice (some ⟨w1.heap.size,0,none⟩) 1 1)).mW 1 (.int .i64 0);exact cO.lost (y:=⟨.slice (some ⟨w1.heap.size,0,none⟩) 1 1,0,x.depth,x.e,x.b⟩) ((h1.bN.set (y:=⟨.slice (some ⟨w1.heap.size,0,none⟩) 1 1,x.pos,x.depth,x.e,x.b⟩) 0 _ (by simp [mK])).set 1 _ (by simp [mK])) (ae HX) rfl (by simp [World.setCell]) rfl k1
theorem bI.trans {w w1 w2:World}{p:Nat}{x x1:cB}{m2:Mode}(k:aQ (Other p w) w w1)(hd:x1.depth=x.depth)(hr:tI w x x1)(b:bI w1 w2 p x1 m2):bI w w2 p x m2:=by
 obtain ⟨y,l,q,e,r⟩:=b.ex;refine ⟨⟨y,l,q,e.trans hd,λg hg=>?_⟩,k.dz b.keeps⟩;rcases r g hg with h|h
 . exact hr g h
 . exact .inr (aw k.size h)
theorem bI.below {w w1 w2:World}{p:Nat}{x:cB}{m:Mode}(h:bI w w1 p x m)(hb:Below w1.heap.size w1 w2):bI w w2 p x m:=by
 obtain ⟨y,l,q,e,r⟩:=h.ex;exact ⟨⟨y,l,q.below hb,e,r⟩,h.keeps.dz (aQ.cQ hb)⟩
theorem mX {w:World}{p:Nat}{x:cB}{m:Mode}{l:List Tok}(h:cO w p x m l)(k:Tk)(pl:Nat):Calls Tryz.prog 41 #[.pointer (some ⟨p,0,none⟩),iZ k pl] w λr w'=>
 r=.returned (.tuple #[])/\bI w w' p x (m.fail 2 pl):=by
 have iw:Below w.heap.size w (w.alloc (.cells #[.int .i64 (aB k),.int .i64 pl,.string (bn k),.int .i64 (dt k)] 102)):=(ag _ _).alloc (af _) _;have H0:=hide (h.below iw);have K0:=hide (aQ.cQ (p:=p) iw);have eB:=h.bN.lt;clear h iw;unfold iZ;go_enter Tryz.func41,Tryz.ntmps41;go_wp2_with fail;refine (Rj (ae H0) 2 pl (by decide)).mono ?_;rintro r w1 ⟨rfl,S⟩;have HS:=hide (bI.trans (x:=x) (ae K0) rfl (λ_ h=>.inl h) S);clear S;go_wp2_with fail;go_end0;exact ⟨rfl,ae HS⟩
theorem pL (m:Mode):m.next.fail 2 m.place=m.wrong 2:=by
 cases m with
 |dead e b=>rfl
 |live t ts=>cases ts<;>rfl
theorem gK {w:World}{p:Nat}{x:cB}{m:Mode}{l:List Tok}(h:cO w p x m l)(c:Nat):Calls Tryz.prog 59 #[.pointer (some ⟨p,0,none⟩),.int .i64 c] w λr w'=>
 r=.returned (iZ m.tk m.place)/\bI w w' p x (if aB m.tk=c then m.next else m.wrong 2):=by
 have iw:Below w.heap.size w (w.alloc (.cells #[.int .i64 0,.int .i64 0,.string ⟨#[]⟩,.int .i64 0] 102)):=(ag _ _).alloc (af _) _;have H0:=hide (h.below iw);have K0:=hide (aQ.cQ (p:=p) iw);have eB:=h.bN.lt;have HGL:=hide (λg (hg:x.v.ownBlock=some g)=>vh (h.own.lt g hg).2);clear h iw;go_enter Tryz.func59,Tryz.ntmps59;go_wp2_with fail;refine (gJ (ae H0)).mono ?_;rintro r w1 ⟨rfl,S⟩;obtain ⟨x1,l1,h1,sM,pj⟩:=S.ex;have nN:=S.keeps;have jD:w.heap.size<w1.heap.size:=by have:=nN.size;simp at this;omega
 have Ks:w1.heap[w.heap.size]?=some (.cells #[.int .i64 0,.int .i64 0,.string ⟨#[]⟩,.int .i64 0] 102 (0,0)):=(nN.block w.heap.size ⟨by omega,by simp⟩).trans (ai w _);have K1:=hide ((ae K0).dz nN);have ZA:tI w x x1:=λg hg=>by
  rcases pj g hg with h|h
  . exact .inl h
  . simp at h;exact .inr (by omega)
 have ahW:∀g,x1.v.ownBlock=some g->g≠w.heap.size:=λg hg=>by
  rcases pj g hg with h|h
  . exact ae HGL g h
  . simp at h;omega
 have bO:Below w1.heap.size w1 (w1.alloc (.cells #[.int .i64 (aB m.tk),.int .i64 m.place,.string (bn m.tk),.int .i64 (dt m.tk)] 102 (0,0))):=(ag _ _).alloc (af _) _;have H1:=hide h1;have H2:=hide (h1.below bO);have jg:=hide bO;have N1:=hide Ks;have HD:=hide sM;have GU:=hide ZA;have HG1:=hide ahW;clear S nN h1 bO Ks sM pj ZA ahW;unfold iZ;by_cases hc:aB m.tk=c
 . have JI:((aB m.tk:Int) != c)=false:=by rw [hc];simp
   obtain ⟨q0,q1,q2,q3⟩:=bD (ae N1);have z0:=aK (ae N1) 0;have z1:=aK (ae N1) 1;have z2:=aK (ae N1) 2;have z3:=aK (ae N1) 3;have UO:=hide hc;clear hc;go_wp2_with fail
   (try simp only [Exit.inBlock,Exit.then])
   have jZ:(((((w1.setCell ⟨w.heap.size,0,none⟩ (.int .i64 c)).setCell ⟨w.heap.size,1,none⟩ (.int .i64 m.place)).setCell ⟨w.heap.size,2,none⟩ (.string (bn m.tk))).setCell ⟨w.heap.size,3,none⟩ (.int .i64 (dt m.tk))).alloc (.cells #[.int .i64 c,.int .i64 m.place,.string (bn m.tk),.int .i64 (dt m.tk)] 102)).heap[w.heap.size]?=some (.cells #[.int .i64 c,.int .i64 m.place,.string (bn m.tk),.int .i64 (dt m.tk)] 102 (0,0)):=
    (bA _ _ _ (by simpa [World.setCell] using jD)).trans (aO _ _ 3 _ _ _ (aO _ _ 2 _ _ _ (aO _ _ 1 _ _ _ (aO _ _ 0 _ _ _ (ae N1)))))
   have Mr:=(bI.Ph (x:=x) (ae H1) (ae HD) (ae GU) (ae K1) eB (ae HG1) (.int .i64 c) (.int .i64 m.place) (.string (bn m.tk)) (.int .i64 (dt m.tk))).below ((ag _ _).alloc (af _) (.cells #[.int .i64 c,.int .i64 m.place,.string (bn m.tk),.int .i64 (dt m.tk)] 102));generalize hWF:World.alloc (World.setCell _ _ _) _=WF at jZ Mr ⊢;obtain ⟨y0,y1,y2,y3⟩:=bD jZ;refine ay (v:=.agg #[.int .i64 c,.int .i64 m.place,.string (bn m.tk),.int .i64 (dt m.tk)]) (by simp [results,Tryz.results59,go_sem,y0,y1,y2,y3];try rfl) rfl ?_;refine ⟨?_,Mr⟩;show _=Ending.returned (.agg #[.int .i64 (aB m.tk),.int .i64 m.place,.string (bn m.tk),.int .i64 (dt m.tk)]);rw [ae UO]
 . have JI:((aB m.tk:Int) != c)=true:=by rw [gy];omega
   have UO:=hide hc;clear hc;go_wp2_with fail;refine (mX (ae H2) m.tk m.place).mono ?_;rintro r w3 ⟨rfl,S⟩;obtain ⟨x3,l3,h3,hd3,Pk⟩:=S.ex;have tq:=S.keeps;have hz3:=tq.size;have QR:=(ae H1).bN.lt;have fN:w3.heap[w1.heap.size]?=some (.cells #[.int .i64 (aB m.tk),.int .i64 m.place,.string (bn m.tk),.int .i64 (dt m.tk)] 102 (0,0)):=(tq.block w1.heap.size ⟨by omega,by simp⟩).trans (ai w1 _);have Ks:w3.heap[w.heap.size]?=some (.cells #[.int .i64 0,.int .i64 0,.string ⟨#[]⟩,.int .i64 0] 102 (0,0)):=(tq.block w.heap.size ⟨by omega,by simp;omega⟩).trans ((bA _ _ _ jD).trans (ae N1));obtain ⟨t0,t1,t2,t3⟩:=bD fN;obtain ⟨q0,q1,q2,q3⟩:=bD Ks;have z0:=aK Ks 0;have z1:=aK Ks 1;have z2:=aK Ks 2;have z3:=aK Ks 3;have hr5:tI w x x3:=λg hg=>by
    rcases Pk g hg with h|h
    . exact ae GU g h
    . simp at h;exact .inr (by omega)
   have zG:∀g,x3.v.ownBlock=some g->g≠w.heap.size:=λg hg=>by
    rcases Pk g hg with h|h
    . exact ae HG1 g h
    . simp at h;omega
   have HE:=hide (λa b c d=>bI.Ph (x:=x) h3 (hd3.trans (ae HD)) hr5 (((ae K1).dz (aQ.cQ (ae jg))).dz tq) eB zG a b c d);clear S h3 hd3 Pk tq fN Ks hr5 zG;go_wp2_with fail
   (try simp only [Exit.inBlock,Exit.then])
   refine ay (v:=iZ m.tk m.place) (by simp [results,Tryz.results59,go_sem,iZ,q0,q1,q2,q3];try rfl) rfl ?_;refine ⟨rfl,?_⟩
   (try rw [aA (ae UO)])
   rw [<- pL];exact ae HE _ _ _ _
def mY (w:World)(g:Nat)(ks:List Nat):Prop:=∀j (h:j<ks.length),w.cell? ⟨g,j,none⟩=some (.int .i64 (ks[j]:Nat))
theorem Pm (ks:List Nat)(g cap c:Nat)(w:World)(hk:mY w g ks)(hl:ks.length<=100):Calls Tryz.prog 133 #[.slice (some ⟨g,0,none⟩) ks.length cap,.int .i64 c] w λr w'=>
 ∃n:Int,r=.returned (.int .i64 n)/\(0<=n↔c∈ks)/\Below w.heap.size w w':=by
 have HK:=hide hk;clear hk;go_enter Tryz.func133,Tryz.ntmps133;go_wp2_with fail;go_loopw [8] (λv wr=>∃i:Nat,i<=ks.length/\v=.int .i64 i/\(∃d,wr=w.drewN d)/\Hid (∀j (h:j<ks.length),j<i->ks[j]≠c)) (λv _=>ks.length - (intOf v).toNat)
 case atStart=>exact ⟨0,aN _,rfl,⟨0,rfl⟩,hide (λj _ h=>by omega)⟩
 case round=>
  obtain ⟨i,hi,rfl,⟨d,rfl⟩,HN⟩:=hrel;by_cases cF:i<ks.length
  . have jI:(i:Int)<ks.length:=by omega
    have hc:w.cell? ⟨g,i,none⟩=some (.int .i64 (ks[i]:Nat)):=ae HK i cF;by_cases he:ks[i]=c
    . have zT:((c:Int)==(ks[i]:Nat))=true:=by rw [bz,he]
      go_wp2_with fail;go_ret;exact ⟨i,rfl,⟨λ_=>he ▸ fG cF,λ_=>by omega⟩,Below.drewN (ag _ _) d⟩
    . have zT:((c:Int)==(ks[i]:Nat))=false:=by rw [aj];omega
      go_wp2_with fail;refine ⟨⟨i+1,by omega,by go_num,⟨d,rfl⟩,hide (λj hj h=>?_)⟩,by simp [intOf];omega⟩;by_cases JJ:j=i
      . subst JJ;exact he
      . exact ae HN j hj (by omega)
  . have jI:¬(i:Int)<ks.length:=by omega
    go_wp2_with fail;go_ret;refine ⟨-1,rfl,⟨λh=>by omega,λh=>?_⟩,Below.drewN (ag _ _) d⟩;obtain ⟨j,hj,e⟩:=List.getElem_of_mem h;exact absurd e (ae HN j hj (by omega))
theorem Ws (ks:List Nat)(g cap c:Nat)(w:World)(hk:mY w g ks)(hl:ks.length<=100):Calls Tryz.prog 107 #[.slice (some ⟨g,0,none⟩) ks.length cap,.int .i64 c] w λr w'=>
 r=.returned (.bool (decide (c∈ks)))/\Below w.heap.size w w':=by
 have HC:=hide (Pm ks g cap c w hk hl);clear hk;go_enter Tryz.func107,Tryz.ntmps107;go_wp2_with fail;refine (ae HC).mono ?_;rintro r w1 ⟨n,rfl,hn,hb⟩;have HB:=hide hb;have HN:=hide hn;clear hb hn;go_wp2_with fail;go_ret;refine ⟨?_,ae HB⟩;show Ending.returned (Value.bool (decide (0<=n)))=_;congr 2;exact decide_eq_decide.mpr (ae HN)
theorem zj (a b:Int)(s:ByteArray)(d:Int)(w:World):(Instr.field 102 (.agg #[.int .i64 a,.int .i64 b,.string s,.int .i64 d]) 0).run Tryz.prog w=.ok (.int .i64 a) w:=by kernel_rfl
theorem mY.below {w w':World}{B g:Nat}{ks:List Nat}(h:mY w g ks)(hb:Below B w w')(hg:g<B):mY w' g ks:=λj hj=>(hb.cell (p:=⟨g,j,none⟩) hg).trans (h j hj)
theorem lh {w:World}{p:Nat}{x:cB}{m:Mode}{l:List Tok}(h:cO w p x m l)(ks:List Nat)(g cap:Nat)(hk:mY w g ks)(hl:ks.length<=100)(hg:g<w.heap.size):Calls Tryz.prog 78 #[.pointer (some ⟨p,0,none⟩),.slice (some ⟨g,0,none⟩) ks.length cap] w λr w'=>
 r=.returned (.bool (decide (aB m.tk∈ks)))/\Below w.heap.size w w':=by
 have H:=hide h;have HK:=hide hk;clear h hk;go_enter Tryz.func78,Tryz.ntmps78;go_wp2_with fail;refine (uL (ae H)).mono ?_;rintro r w1 ⟨rfl,bL⟩;have nN:=(ae HK).below bL hg;have HC:=hide (Ws ks g cap (aB m.tk) w1 nN hl);have eI:=hide bL;clear bL nN;have Rk:∀w,(Instr.field 102 (.agg #[.int .i64 (aB m.tk),.int .i64 m.place,.string (bn m.tk),.int .i64 (dt m.tk)]) 0).run Tryz.prog w=.ok (.int .i64 (aB m.tk)) w:=λw=>zj _ _ _ _ w;unfold iZ;go_wp2_with fail;refine (ae HC).mono ?_;rintro r w2 ⟨rfl,bO⟩;have jg:=hide ((ae eI).trans (bO.mono (ae eI).size));clear bO;go_wp2_with fail;go_ret;exact ⟨rfl,ae jg⟩
theorem bI.same {w w':World}{p:Nat}{x:cB}{m:Mode}{l:List Tok}(h:cO w p x m l)(hb:Below w.heap.size w w'):bI w w' p x m:=⟨⟨x,l,h.below hb,rfl,λ_ h=>.inl h⟩,aQ.cQ hb⟩
theorem ji {w:World}{p:Nat}{x:cB}{m:Mode}{l:List Tok}(h:cO w p x m l)(c:Nat):Calls Tryz.prog 81 #[.pointer (some ⟨p,0,none⟩),.int .i64 c] w λr w'=>
 r=.returned (.bool (decide (aB m.tk=c)))/\bI w w' p x (if aB m.tk=c then m.next else m):=by
 have iw:Below w.heap.size w (w.alloc (.cells #[.int .i64 c] 100)):=(ag _ _).alloc (af _) _;have QK:mY (w.alloc (.cells #[.int .i64 c] 100)) w.heap.size [c]:=λj hj=>by
  have e:j=0:=by simp at hj;omega
  subst e;have hb:=ai w (.cells #[.int .i64 c] 100);simp only [World.cell?,hb];rfl
 have H0:=hide (h.below iw);have HI:=hide (lh (h.below iw) [c] w.heap.size 1 QK (by simp) (by simp));have wE:=hide iw;clear h iw QK;go_enter Tryz.func81,Tryz.ntmps81;go_wp2_with fail;refine (ae HI).mono ?_;rintro r w1 ⟨rfl,bL⟩;have H1:=hide ((ae H0).below bL);have eI:=hide ((ae wE).trans (bL.mono (by simp)));clear bL;by_cases hc:aB m.tk=c
 . have hd:decide (aB m.tk∈[c])=true:=by simp [hc]
   have I5:decide (aB m.tk=c)=true:=by simp [hc]
   have HC:=hide hc;rw [hd];clear hc;go_wp2_with fail;refine (gJ (ae H1)).mono ?_;rintro r w2 ⟨rfl,S⟩;have HS:=hide (bI.trans (x:=x) (aQ.cQ (ae eI)) rfl (λ_ h=>.inl h) S);clear S;unfold iZ;go_wp2_with fail;go_ret
   (try rw [aH (ae HC)])
   exact ⟨rfl,ae HS⟩
 . have hd:decide (aB m.tk∈[c])=false:=by simp [hc]
   have HC:=hide hc;rw [hd];clear hc;go_wp2_with fail;go_ret
   (try rw [aA (ae HC)])
   exact ⟨rfl,⟨⟨x,l,ae H1,rfl,λ_ h=>.inl h⟩,aQ.cQ (ae eI)⟩⟩
theorem Az {L:List ByteArray}{t:ByteArray}(h:t∈L):L[sL L t]?=some t:=by
 have cF:L.findIdx (kh t)<L.length:=List.findIdx_lt_length_of_exists ⟨t,h,iQ.mpr rfl⟩;have:=qe (w:=cF);rw [iQ] at this;unfold sL;rw [ah cF,<- this]
theorem Hm:∀t∈bS,∀s∈ei,kh t s=false:=by decide
theorem Hn:∀t∈ei,∀s∈bS,kh t s=false:=by decide
theorem cO.xF {w:World}{p:Nat}{x:cB}{m:Mode}{l:List Tok}(h:cO w p x m l):m.tk.wf:=by
 have:=h.wf _ (aG h.mode.cur);exact this
theorem cO.goes {w:World}{p:Nat}{x:cB}{m:Mode}{l:List Tok}(h:cO w p x m l){s:ByteArray}(hs:m.is s=true):m.alive/\m.next.len+1=m.len:=by
 cases m with
 |dead e b=>simp [Mode.is,Mode.tk] at hs
 |live t ts=>
   refine ⟨trivial,?_⟩
   cases ts with
   |cons u us=>rfl
   |nil=>
     exfalso;have hd:=h.mode.2;have hl:l.getLast?=some t:=by
      have e:=ml x.pos l;rw [hd] at e;rw [<- e,List.getLast?_append];rfl
     have he:=h.fin t hl;have hn:=DV hs;rw [he] at hn
     cases hn
theorem iW {m:Mode}(hw:m.tk.wf){s:ByteArray}{i:Nat}(hs:ei[i]?=some s)(hi:sL ei s=i):m.is s=decide (aB m.tk=5+i):=by
 have cF:i<16:=(ak.mp hs).1;have hsm:s∈ei:=aG hs;unfold Mode.is
 cases hk:m.tk with
 |stop=>exact (show false=decide (0=5+i) from (aI (by omega)).symm)
 |bad=>exact (show false=decide (1=5+i) from (aI (by omega)).symm)
 |name t=>exact (show false=decide (2=5+i) from (aI (by omega)).symm)
 |num t=>exact (show false=decide (3=5+i) from (aI (by omega)).symm)
 |str t=>exact (show false=decide (4=5+i) from (aI (by omega)).symm)
 |sign t=>
   rw [hk] at hw;have ht:t∈ei:=hw;rw [lQ,iQ,cY];simp only [aB];constructor
   . rintro rfl;rw [hi]
   . intro e
     have h1:=Az ht;rw [show sL ei t=i from by omega,hs] at h1;exact (aS h1).symm
 |word t=>
   rw [hk] at hw;have ht:t∈bS:=hw;show kh t s=decide (21+sL bS t=5+i);rw [Hm t ht s hsm];exact (aI (by omega)).symm
theorem eu {m:Mode}(hw:m.tk.wf){s:ByteArray}{i:Nat}(hs:bS[i]?=some s)(hi:sL bS s=i):m.is s=decide (aB m.tk=21+i):=by
 have hsm:s∈bS:=aG hs;unfold Mode.is
 cases hk:m.tk with
 |stop=>exact (show false=decide (0=21+i) from (aI (by omega)).symm)
 |bad=>exact (show false=decide (1=21+i) from (aI (by omega)).symm)
 |name t=>exact (show false=decide (2=21+i) from (aI (by omega)).symm)
 |num t=>exact (show false=decide (3=21+i) from (aI (by omega)).symm)
 |str t=>exact (show false=decide (4=21+i) from (aI (by omega)).symm)
 |sign t=>
   rw [hk] at hw;have ht:t∈ei:=hw;have h1:sL ei t<16:=(ak.mp (Az ht)).1;show kh t s=decide (5+sL ei t=21+i);rw [Hn t ht s hsm];exact (aI (by omega)).symm
 |word t=>
   rw [hk] at hw;have ht:t∈bS:=hw;rw [lQ,iQ,cY];simp only [aB];constructor
   . rintro rfl;rw [hi]
   . intro e
     have h1:=Az ht;rw [show sL bS t=i from by omega,hs] at h1;exact (aS h1).symm
theorem uM {m:Mode}{s:ByteArray}{c:Nat}(h:m.is s=decide (aB m.tk=c)):(if aB m.tk=c then m.next else m.wrong 2)=m.take s:=by
 unfold Mode.take;rw [h];by_cases hc:aB m.tk=c
 . rw [aH hc,aH (by simpa using hc)]
 . rw [aA hc,aA (by simpa using hc)]
theorem od (m:Mode):(if aB m.tk=2 then m.next else m.wrong 2)=m.name.2/\(m.name.2.alive->(bn m.tk,m.place)=m.name.1):=by
 unfold Mode.name
 cases hk:m.tk with
 |name t=>exact ⟨rfl,λ_=>rfl⟩
 |stop=>exact ⟨rfl,λh=>absurd h (by cases m<;>exact λh=>h)⟩
 |bad=>exact ⟨rfl,λh=>absurd h (by cases m<;>exact λh=>h)⟩
 |num t=>exact ⟨rfl,λh=>absurd h (by cases m<;>exact λh=>h)⟩
 |str t=>exact ⟨rfl,λh=>absurd h (by cases m<;>exact λh=>h)⟩
 |sign t=>exact ⟨aA (by simp only [aB];omega),λh=>absurd h (by cases m<;>exact λh=>h)⟩
 |word t=>exact ⟨aA (by simp only [aB];omega),λh=>absurd h (by cases m<;>exact λh=>h)⟩
structure mP (w w1:World)(p:Nat)(x x1:cB)(m1:Mode)(l1:List Tok):Prop where
 bN:cO w1 p x1 m1 l1
 depth:x1.depth=x.depth
 row:tI w x x1
 free:∀g,x1.v.ownBlock=some g->g≠w.heap.size
 keeps:aQ (Other p w) w w1
 lp:p<w.heap.size
 big:w.heap.size<w1.heap.size
section
variable {w w1 w2:World} {p:Nat} {x x1:cB} {m m1 m2:Mode} {l l1:List Tok}
theorem mP.start (h:cO w p x m l)(o:Obj):mP w (w.alloc o) p x x m l:=
 have hb:Below w.heap.size w (w.alloc o):=(ag _ _).alloc (af _) o
 ⟨h.below hb,rfl,λ_ h=>.inl h,λg hg=>vh (h.own.lt g hg).2,aQ.cQ hb,h.bN.lt,by simp⟩
theorem mP.step (h:mP w w1 p x x1 m1 l1):bI w w1 p x m1:=⟨⟨x1,l1,h.bN,h.depth,h.row⟩,h.keeps⟩
theorem mP.call (h:mP w w1 p x x1 m1 l1)(S:bI w1 w2 p x1 m2):∃x2 l2,mP w w2 p x x2 m2 l2:=by
 obtain ⟨x2,l2,h2,I5,N3⟩:=S.ex;have hb:=h.big;have hk:=S.keeps.size;refine ⟨x2,l2,h2,I5.trans h.depth,λg hg=>?_,λg hg=>?_,h.keeps.dz S.keeps,h.lp,by omega⟩
 . rcases N3 g hg with e|e
   . exact h.row g e
   . exact .inr (by omega)
 . rcases N3 g hg with e|e
   . exact h.free g e
   . omega
theorem mP.below (h:mP w w1 p x x1 m1 l1)(hb:Below w1.heap.size w1 w2):mP w w2 p x x1 m1 l1:=
 ⟨h.bN.below hb,h.depth,h.row,h.free,h.keeps.dz (aQ.cQ hb),h.lp,aF h.big hb.size⟩
theorem mP.set (h:mP w w1 p x x1 m1 l1)(i:Nat)(v:Value):mP w (w1.setCell ⟨w.heap.size,i,none⟩ v) p x x1 m1 l1:=by
 have hlp:=h.lp;exact ⟨h.bN.other (by omega) (λe=>h.free _ e rfl) i v,h.depth,h.row,h.free,h.keeps.setCell (p:=⟨w.heap.size,i,none⟩) (λe=>bx _ e.2) v,h.lp,by simpa [World.setCell] using h.big⟩
theorem mP.block (S:bI w1 w2 p x1 m2){k:Nat}{o:Obj}(h:w1.heap[k]?=some o)(hk:k≠p):w2.heap[k]?=some o:=(S.keeps.block k ⟨hk,fK h⟩).trans h
end
theorem jk {w:World}{p:Nat}{x:cB}{m:Mode}{l:List Tok}(h:cO w p x m l):Calls Tryz.prog 56 #[.pointer (some ⟨p,0,none⟩)] w λr w'=>
 r=.returned (.agg #[.string (bn m.tk),.int .i64 m.place])/\bI w w' p x m.name.2:=by
 have hA:=mP.start h (.cells #[.string ⟨#[]⟩,.int .i64 0] 106);have HA:=hide hA;have eB:=h.bN.lt;clear h hA;go_enter Tryz.func56,Tryz.ntmps56;go_wp2_with fail;refine (gK (ae HA).bN 2).mono ?_;rintro r w1 ⟨rfl,S⟩;rw [(od m).1] at S;obtain ⟨x1,l1,A1⟩:=(ae HA).call S;have fN:w1.heap[w.heap.size]?=some (.cells #[.string ⟨#[]⟩,.int .i64 0] 106 (0,0)):=mP.block S (ai w _) (by omega);have q0:w1.cell? ⟨w.heap.size,0,none⟩=some (.string ⟨#[]⟩):=by simp [World.cell?,fN]
 have q1:w1.cell? ⟨w.heap.size,1,none⟩=some (.int .i64 0):=by simp [World.cell?,fN]
 have z0:=aK fN 0;have z1:=aK fN 1;have BI:=A1.big;have qp:=hide A1;have L7:=hide fN;clear S A1 fN;unfold iZ;go_wp2_with fail;have jZ:(((w1.setCell ⟨w.heap.size,0,none⟩ (.string (bn m.tk))).setCell ⟨w.heap.size,1,none⟩ (.int .i64 m.place)).alloc (.cells #[.int .i64 (aB m.tk),.int .i64 m.place,.string (bn m.tk),.int .i64 (dt m.tk)] 102)).heap[w.heap.size]?=some (.cells #[.string (bn m.tk),.int .i64 m.place] 106 (0,0)):=
  (bA _ _ _ (by simpa [World.setCell] using BI)).trans (aO _ _ 1 _ _ _ (aO _ _ 0 _ _ _ (ae L7)))
 have Mr:=((((ae qp).set 0 (.string (bn m.tk))).set 1 (.int .i64 m.place)).below ((ag _ _).alloc (af _) (.cells #[.int .i64 (aB m.tk),.int .i64 m.place,.string (bn m.tk),.int .i64 (dt m.tk)] 102))).step;generalize hWF:World.alloc (World.setCell _ _ _) _=WF at jZ Mr ⊢;have y0:WF.cell? ⟨w.heap.size,0,none⟩=some (.string (bn m.tk)):=by simp [World.cell?,jZ]
 have y1:WF.cell? ⟨w.heap.size,1,none⟩=some (.int .i64 m.place):=by simp [World.cell?,jZ]
 (try simp only [Exit.inBlock,Exit.then])
 refine ay (v:=.agg #[.string (bn m.tk),.int .i64 m.place]) (by simp [results,Tryz.results56,go_sem,y0,y1];try rfl) rfl ?_;exact ⟨rfl,Mr⟩
theorem bI.chain {w w1 w2:World}{p:Nat}{x:cB}{m1 m2:Mode}(a:bI w w1 p x m1)(b:∀x1 l1,cO w1 p x1 m1 l1->x1.depth=x.depth->tI w x x1->bI w1 w2 p x1 m2):bI w w2 p x m2:=by
 obtain ⟨x1,l1,h1,hd,hr⟩:=a.ex;exact bI.trans a.keeps hd hr (b x1 l1 h1 hd hr)
theorem Tryz.I6:(Tryz.prog.info? 106).map (λi=>(i.zero,i.size,i.bytes))=some (some (.agg #[.string ByteArray.empty,.int .i64 0]),2,24):=by kernel_rfl
theorem uN {w:World}{p:Nat}{x:cB}{m:Mode}{l:List Tok}(h:cO w p x m l):m.is kj=decide (aB m.tk=13):=iW (i:=8) h.xF rfl (by decide)
structure fP (w wr:World)(p:Nat)(x x':cB)(m0 m':Mode)(l':List Tok)(e:TypeId)(size:Nat)(v:Value)(n:Nat)(xs:List Value):Prop where
 bN:cO wr p x' m' l'
 depth:x'.depth=x.depth
 row:tI w x x'
 keeps:aQ (Other p w) w wr
 own:wr.ownsRow w.heap.size e size v n xs
 few:n+m'.len<=m0.len+1
 lp:p<w.heap.size
 apart:∀g,v.ownBlock=some g->x'.v.ownBlock≠some g
theorem fP.step {w wr:World}{p:Nat}{x x':cB}{m0 m':Mode}{l':List Tok}{e:TypeId}{size:Nat}{v:Value}{n:Nat}{xs:List Value}(h:fP w wr p x x' m0 m' l' e size v n xs):bI w wr p x m':=⟨⟨x',l',h.bN,h.depth,h.row⟩,h.keeps⟩
theorem fP.ne {w wr:World}{p:Nat}{x x':cB}{m0 m':Mode}{l':List Tok}{e:TypeId}{size:Nat}{v:Value}{n:Nat}{xs:List Value}(h:fP w wr p x x' m0 m' l' e size v n xs):∀g,v.ownBlock=some g->Other p wr g:=λg hg=>by
 have h1:=h.own.lt g hg;have h2:=h.lp;exact ⟨by omega,h1.2⟩
theorem fP.call {w wr w1:World}{p:Nat}{x x':cB}{m0 m' m1:Mode}{l':List Tok}{e:TypeId}{size:Nat}{v:Value}{n:Nat}{xs:List Value}(h:fP w wr p x x' m0 m' l' e size v n xs)(S:bI wr w1 p x' m1)(hf:m1.len<=m'.len):∃x1 l1,fP w w1 p x x1 m0 m1 l1 e size v n xs:=by
 obtain ⟨x1,l1,h1,sM,pj⟩:=S.ex;have hk:=h.keeps.size;have hfe:=h.few;refine ⟨x1,l1,h1,sM.trans h.depth,λg hg=>?_,h.keeps.dz S.keeps,jQ h.own S.keeps h.ne,by omega,h.lp,λg hg e=>?_⟩
 . rcases pj g hg with q|q
   . exact h.row g q
   . exact .inr (by omega)
 . rcases pj g e with q|q
   . exact h.apart g hg q
   . have:=(h.own.lt g hg).2
     omega
theorem Mx (n:Nm):∀u∈vA n,u.oneCell'=true:=by
 intro u hu;simp [vA] at hu;rcases hu with rfl|rfl<;>rfl
theorem rZ {u v:Value}{a:Nat}(h1:lenOf u=a+1)(h0:lenOf v=a)(ha:a<2000):2000 - lenOf u<2000 - lenOf v:=by
 rw [h1,h0];omega
theorem fP.app {w wr w5:World}{p:Nat}{x x':cB}{m0 m':Mode}{l':List Tok}{e:TypeId}{size:Nat}{va:Option Addr}{vc n:Nat}{xs news:List Value}{o:Obj}{g cap:Nat}(h:fP w wr p x x' m0 m' l' e size (.slice va n vc) n xs)
 (ho:w5.ownsRow w.heap.size e size (.slice (some ⟨g,0,none⟩) (n+1) cap) (n+1) (xs++news)) (hg:(wr.alloc o).grownBy w5 (Value.slice va n vc).ownBlock) (hb:(Value.slice va n vc).ownBlock=some g\/(wr.alloc o).heap.size<=g) (hf:n+1+m'.len<=m0.len+1) :
 fP w w5 p x x' m0 m' l' e size (.slice (some ⟨g,0,none⟩) (n+1) cap) (n+1) (xs++news):=by
 have QP:=h.bN.bN.lt;have hlp:=h.lp;have Le:=h.keeps.size;have iq:∀q,(Value.slice va n vc).ownBlock=some q->w.heap.size<=q:=λq hq=>(h.own.lt q hq).1;have dV:∀k,k<wr.heap.size->(Value.slice va n vc).ownBlock≠some k->w5.heap[k]?=wr.heap[k]?:=λk hk hn=>(hg.block k (by simp;omega) (λe=>hn e.symm)).trans (bA _ _ _ hk);have kd:wr.heap.size<=w5.heap.size:=by have:=hg.size;simp at this;omega
 have hpb:w5.heap[p]?=wr.heap[p]?:=dV p QP (λe=>by have:=iq p e;omega);have Pq:w5.ownsRow 0 102 4 x'.v l'.length (wO l'):=by
  have h0:=h.bN.own;refine ⟨h0.1,?_⟩;rcases h0.2 with h2|⟨q,cp,cur,hv,hq,hc,r⟩
  . exact .inl h2
  . refine .inr ⟨q,cp,cur,hv,hq,(dV q ?_ ?_).trans hc,r⟩
    . exact (h.bN.own.lt q (by rw [hv];rfl)).2
    . exact λe=>h.apart q e (by rw [hv];rfl)
 refine ⟨⟨hpb.trans h.bN.bN,Pq,h.bN.apart,h.bN.mode,h.bN.few,h.bN.wf,h.bN.fin⟩,h.depth,h.row,?_,?_,?_,h.lp,λq hq e=>?_⟩
 . exact h.keeps.trans ⟨hg.os,hg.tape,hg.output,kd,λk hk=>dV k (aF hk.2 Le) (λe=>by have:=iq k e;have:=hk.2;omega)⟩
 . exact ho
 . exact hf
 . simp [Value.ownBlock] at hq
   subst hq;rcases hb with hb|hb
   . exact h.apart _ hb e
   . have:=(h.bN.own.lt _ e).2
     simp at hb;omega
theorem My {w:World}{p:Nat}{x:cB}{m:Mode}{l:List Tok}(h:cO w p x m l)(hm:m.len<=600):Calls Tryz.prog 108 #[.pointer (some ⟨p,0,none⟩),.func (.func 56) #[.pointer (some ⟨p,0,none⟩)] #[]] w λr w'=>
 ∃v ls,r=.returned v/\bI w w' p x (gu m).2/\w'.ownsRow w.heap.size 106 2 v ls.length (jF ls)/\((gu m).2.alive->ls=(gu m).1):=by
 obtain ⟨i0,hi,jS,jD,jv⟩:=uK Tryz.I6;have eB:=h.bN.lt;have H:=hide h;clear h;go_enter Tryz.func108,Tryz.ntmps108;go_wp2_with fail;refine (jk (ae H)).mono ?_;rintro r w1 ⟨rfl,S⟩;have Ip:=cP m;obtain ⟨x1,l1,h1,sM,pj⟩:=S.ex;have bO:Below w1.heap.size w1 (w1.alloc (.cells #[.string (bn m.tk),.int .i64 m.place] 106)):=(ag _ _).alloc (af _) _;have Le:=S.keeps.size;have xG:fP w (w1.alloc (.cells #[.string (bn m.tk),.int .i64 m.place] 106)) p x x1 m m.name.2 l1 106 2 (.slice (some ⟨w1.heap.size,0,none⟩) 1 1) 1 (jF [(bn m.tk,m.place)]):=
  ⟨h1.below bO,sM,pj,S.keeps.dz (aQ.cQ bO),⟨by simp [jF,vA],.inr ⟨w1.heap.size,1,#[.string (bn m.tk),.int .i64 m.place],rfl,Le,ai w1 _,by simp,by decide,by simp,by simp [jF,vA]⟩⟩,by omega,eB,λg hg e=>by
   simp [Value.ownBlock] at hg;have:=(h1.own.lt g e).2;omega⟩
 have Rp:=hide xG;clear S h1 sM pj bO xG;go_wp2_with fail;go_loopw [5] (λv wr=>∃(x':cB) (m':Mode) (l':List Tok) (ls lp:List Nm) (fuel:Nat),Hid (fP w wr p x x' m m' l' 106 2 v ls.length (jF ls))/\m'.len<=fuel/\Hid (fm Mode.name fuel lp m'=gu m)/\Hid (m'.alive->ls=lp)) (λv _=>2000 - lenOf v)
 case atStart=>exact ⟨x1,_,l1,[(bn m.tk,m.place)],[m.name.1],_,Rp,af _,hide rfl,hide (λha=>by rw [(od m).2 ha])⟩
 case round=>
  obtain ⟨x',m',l',ls,lp,fuel,HL,I7,HC,HE⟩:=hrel;have sS:=uN (ae HL).bN;by_cases hc:aB m'.tk=13
  . have ic:m'.is kj=true:=by rw [sS];simpa using hc
    obtain ⟨pJ,hlen⟩:=(ae HL).bN.goes ic;obtain ⟨f,rfl⟩:∃f,fuel=f+1:=⟨fuel - 1,by omega⟩;have o8:=hide (lS (ae HC) ic);have qK:=hide pJ;have HT:=hide (show Calls Tryz.prog 81 #[.pointer (some ⟨p,0,none⟩),.int .i64 13] wr λr w'=>r=.returned (.bool true)/\bI wr w' p x' m'.next from by
     refine (ji (ae HL).bN 13).mono ?_;rintro r w' ⟨rfl,S⟩;rw [aH hc] at S;exact ⟨by simp [hc],S⟩)
    clear hc ic pJ sS;go_wp2_with fail;refine (ae HT).mono ?_;rintro r w2 ⟨rfl,S2⟩;obtain ⟨x2,l2,L2⟩:=(ae HL).call S2 (by omega);have r6:=hide L2;clear S2 L2;go_wp2_with fail;refine (jk (ae r6).bN).mono ?_;rintro r w3 ⟨rfl,S3⟩;have Mz:=cP m'.next;have DW:=(ae HL).few;obtain ⟨x3,l3,L3⟩:=(ae r6).call S3 Mz;obtain ⟨va,vc,hv⟩:=kI L3.own;subst hv;have I8:=hide L3;have IE:=hide (L3.own.alloc (.cells #[.string (bn m'.next.tk),.int .i64 m'.next.place] 106));have Gv:=hide (World.news_of_block (ai w3 (.cells #[.string (bn m'.next.tk),.int .i64 m'.next.place] 106)));have tq:=L3.keeps.size;clear S3 L3;go_wp2_with (at_builtin;refine cA _ rfl _ _ 175 rfl w.heap.size 106 i0 _ 2 24 Tryz.underlying175 hi jS jD jv rfl (by decide) _ _ _ rfl (ae IE) ⟨w3.heap.size,0,none⟩ 1 1 (vA (bn m'.next.tk,m'.next.place)) rfl rfl (ae Gv) (Mx _) (by decide) ?c3 ?c4 ?c5 ?_)
    case c3=>unfold maxLen;omega
    case c4=>omega
    case c5=>simp;omega
    intro g cap w5 br bE bW;have Wv:=(ae I8).app br bE (by simpa using bW) (by omega);have UZ:=hide (show fP w w5 p x x3 m m'.next.name.2 l3 106 2 (.slice (some ⟨g,0,none⟩) (ls.length+1) cap) (ls++[(bn m'.next.tk,m'.next.place)]).length (jF (ls++[(bn m'.next.tk,m'.next.place)])) from by rw [au,CF];exact Wv);clear br bE bW Wv;go_wp2_with fail;go_roundw
    case rel=>
     refine ⟨x3,_,l3,ls++[(bn m'.next.tk,m'.next.place)],_,f,UZ,by omega,o8,hide (λha=>?_)⟩;rw [ae HE (ae qK),<- (od m'.next).2 ha]
    case measure=>exact rZ rfl rfl (by omega)
  . have ic:m'.is kj=false:=by rw [sS];simpa using hc
    have jZ:(lp,m')=gu m:=(lT ic).symm.trans (ae HC);have HF:=hide jZ;have HT:=hide (show Calls Tryz.prog 81 #[.pointer (some ⟨p,0,none⟩),.int .i64 13] wr λr w'=>r=.returned (.bool false)/\bI wr w' p x' m' from by
     refine (ji (ae HL).bN 13).mono ?_;rintro r w' ⟨rfl,S⟩;rw [aA hc] at S;exact ⟨by simp [hc],S⟩)
    clear hc ic sS jZ;go_wp2_with fail;refine (ae HT).mono ?_;rintro r w2 ⟨rfl,S2⟩;obtain ⟨x2,l2,L2⟩:=(ae HL).call S2 (af _);have r6:=hide L2;clear S2 L2;go_wp2_with fail;go_ret;refine ⟨_,ls,rfl,?_,(ae r6).own,?_⟩
    . rw [<- ae HF];exact (ae r6).step
    . rw [<- ae HF];exact ae HE
theorem MA {w:World}{p:Nat}{x:cB}{m:Mode}{l:List Tok}(h:cO w p x m l)(hm:m.len<=600):Calls Tryz.prog 79 #[.pointer (some ⟨p,0,none⟩)] w λr w'=>
 ∃v ls,r=.returned v/\bI w w' p x (gu m).2/\w'.ownsRow w.heap.size 106 2 v ls.length (jF ls)/\((gu m).2.alive->ls=(gu m).1):=by
 have H:=hide h;clear h;go_enter Tryz.func79,Tryz.ntmps79;go_wp2_with fail;refine (My (ae H) hm).mono ?_;rintro r w1 ⟨v,ls,rfl,S,ho,he⟩;have HS:=hide S;have HO:=hide ho;have HE:=hide he;clear S ho he;go_wp2_with fail;go_ret;exact ⟨v,ls,rfl,ae HS,ae HO,ae HE⟩
def qz (m:Mode):Nat×Mode:=if aB m.tk=42 then (0,m.next) else if aB m.tk=43 then (1,m.next) else if aB m.tk=44 then (2,m.next) else (0,m.wrong 2)
theorem Ww {m:Mode}(h:m.tk.wf):(qz m).2=(mF m).2/\((mF m).2.alive->(qz m).1=(mF m).1):=by
 unfold qz mF;rw [show m.is ac7=decide (aB m.tk=42) from eu (i:=21) h rfl (by decide),show m.is ac8=decide (aB m.tk=43) from eu (i:=22) h rfl (by decide)];unfold Mode.take;rw [show m.is QU=decide (aB m.tk=44) from eu (i:=23) h rfl (by decide)];by_cases h1:aB m.tk=42
 . simp [h1]
 . by_cases h2:aB m.tk=43
   . simp [h2]
   . by_cases h3:aB m.tk=44
     . simp [h3]
     . simp only [h1,h2,h3,decide_false,if_false]
       exact ⟨rfl,λh=>absurd h (cj m 2)⟩
theorem Rq {w:World}{p:Nat}{x:cB}{m:Mode}{l:List Tok}(h:cO w p x m l):m.next.tk.wf:=by
 cases m with
 |dead e b=>trivial
 |live t ts=>
   cases ts with
   |nil=>exact h.xF
   |cons u us=>
     refine h.wf u ?_;have hd:=h.mode.2;have:u∈l.drop x.pos:=by rw [hd];simp
     exact jb this
theorem aai {w:World}{p:Nat}{x:cB}{m:Mode}{l:List Tok}(h:cO w p x m l):m.name.2.tk.wf:=by
 unfold Mode.name;split
 . exact Rq h
 . cases m<;>trivial
theorem aaj {w:World}{p:Nat}{x:cB}{m:Mode}{l:List Tok}(h:cO w p x m l):Calls Tryz.prog 104 #[.pointer (some ⟨p,0,none⟩)] w λr w'=>
 r=.returned (.int .i64 (qz m).1)/\bI w w' p x (qz m).2:=by
 have H:=hide h;have eB:=h.bN.lt;clear h;by_cases h1:aB m.tk=42
 . have e0:((aB m.tk:Int)==42)=true:=by rw [bz];omega
   have hr:qz m=(0,m.next):=aH h1;rw [hr];clear h1;go_enter Tryz.func104,Tryz.ntmps104;go_wp2_with fail;refine (gJ (ae H)).mono ?_;rintro r w1 ⟨rfl,S⟩;have HS:=hide (S.below ((ag _ _).alloc (af _) (.cells #[.int .i64 (aB m.tk),.int .i64 m.place,.string (bn m.tk),.int .i64 (dt m.tk)] 102)));clear S;unfold iZ;go_wp2_with fail;go_ret;exact ⟨rfl,ae HS⟩
 . by_cases h2:aB m.tk=43
   . have e0:((aB m.tk:Int)==42)=false:=by rw [aj];omega
     have e1:((aB m.tk:Int)==43)=true:=by rw [bz];omega
     have hr:qz m=(1,m.next):=(aA h1).trans (aH h2);rw [hr];clear h1 h2;go_enter Tryz.func104,Tryz.ntmps104;go_wp2_with fail;refine (gJ (ae H)).mono ?_;rintro r w1 ⟨rfl,S⟩;have HS:=hide (S.below ((ag _ _).alloc (af _) (.cells #[.int .i64 (aB m.tk),.int .i64 m.place,.string (bn m.tk),.int .i64 (dt m.tk)] 102)));clear S;unfold iZ;go_wp2_with fail;go_ret;exact ⟨rfl,ae HS⟩
   . by_cases h3:aB m.tk=44
     . have e0:((aB m.tk:Int)==42)=false:=by rw [aj];omega
       have e1:((aB m.tk:Int)==43)=false:=by rw [aj];omega
       have e2:((aB m.tk:Int)==44)=true:=by rw [bz];omega
       have hr:qz m=(2,m.next):=(aA h1).trans ((aA h2).trans (aH h3));rw [hr];clear h1 h2 h3;go_enter Tryz.func104,Tryz.ntmps104;go_wp2_with fail;refine (gJ (ae H)).mono ?_;rintro r w1 ⟨rfl,S⟩;have HS:=hide (S.below ((ag _ _).alloc (af _) (.cells #[.int .i64 (aB m.tk),.int .i64 m.place,.string (bn m.tk),.int .i64 (dt m.tk)] 102)));clear S;unfold iZ;go_wp2_with fail;go_ret;exact ⟨rfl,ae HS⟩
     . have e0:((aB m.tk:Int)==42)=false:=by rw [aj];omega
       have e1:((aB m.tk:Int)==43)=false:=by rw [aj];omega
       have e2:((aB m.tk:Int)==44)=false:=by rw [aj];omega
       have hr:qz m=(0,m.wrong 2):=(aA h1).trans ((aA h2).trans (aA h3));rw [hr,<- pL];clear h1 h2 h3;go_enter Tryz.func104,Tryz.ntmps104;go_wp2_with fail;refine (gJ (ae H)).mono ?_;rintro r w1 ⟨rfl,S⟩;obtain ⟨x1,l1,q1,sM,pj⟩:=S.ex;have bO:Below w1.heap.size w1 (w1.alloc (.cells #[.int .i64 (aB m.tk),.int .i64 m.place,.string (bn m.tk),.int .i64 (dt m.tk)] 102)):=(ag _ _).alloc (af _) _;have HQ:=hide (q1.below bO);have HK:=hide (S.keeps.dz (aQ.cQ bO));have HD:=hide sM;have HR:=hide pj;clear S q1 sM pj bO;unfold iZ;go_wp2_with fail;refine (mX (ae HQ) m.tk m.place).mono ?_;rintro r w2 ⟨rfl,S2⟩;have HS:=hide (bI.trans (x:=x) (ae HK) (ae HD) (ae HR) S2);clear S2;go_wp2_with fail;go_ret;exact ⟨rfl,ae HS⟩
def MB (m:Mode):(Nm×Nat)×Mode:=(((bn m.tk,m.place),(qz m.name.2).1),(qz m.name.2).2)
def Wx (c:Nm×Nat):Value:=.agg #[.string c.1.1,.int .i64 c.1.2,.int .i64 c.2]
theorem I9 {w:World}{p:Nat}{x:cB}{m:Mode}{l:List Tok}(h:cO w p x m l):Calls Tryz.prog 76 #[.pointer (some ⟨p,0,none⟩)] w λr w'=>
 r=.returned (Wx (MB m).1)/\bI w w' p x (MB m).2:=by
 have hA:=mP.start h (.cells #[.string ⟨#[]⟩,.int .i64 0,.int .i64 0] 163);have HA:=hide hA;have eB:=h.bN.lt;clear h hA;go_enter Tryz.func76,Tryz.ntmps76;go_wp2_with fail;refine (jk (ae HA).bN).mono ?_;rintro r w1 ⟨rfl,S⟩;obtain ⟨x1,l1,A1⟩:=(ae HA).call S;have Tf:w1.heap[w.heap.size]?=some (.cells #[.string ⟨#[]⟩,.int .i64 0,.int .i64 0] 163 (0,0)):=mP.block S (ai w _) (by omega);have qp:=hide A1;have aed:=hide Tf;clear S A1 Tf;go_wp2_with fail;refine (aaj (ae qp).bN).mono ?_;rintro r w2 ⟨rfl,S2⟩;obtain ⟨x2,l2,A2⟩:=(ae qp).call S2;have fN:w2.heap[w.heap.size]?=some (.cells #[.string ⟨#[]⟩,.int .i64 0,.int .i64 0] 163 (0,0)):=mP.block S2 (ae aed) (by omega);have q0:w2.cell? ⟨w.heap.size,0,none⟩=some (.string ⟨#[]⟩):=by simp [World.cell?,fN]
 have q1:w2.cell? ⟨w.heap.size,1,none⟩=some (.int .i64 0):=by simp [World.cell?,fN]
 have q2:w2.cell? ⟨w.heap.size,2,none⟩=some (.int .i64 0):=by simp [World.cell?,fN]
 have z0:=aK fN 0;have z1:=aK fN 1;have z2:=aK fN 2;have HE:=hide (λa b c=>(((A2.set 0 a).set 1 b).set 2 c).step);clear S2 A2 fN;go_wp2_with fail
 (try simp only [Exit.inBlock,Exit.then])
 refine ay (v:=Wx (MB m).1) (by simp [results,Tryz.results76,go_sem,Wx,MB,q0,q1,q2];try rfl) rfl ?_;exact ⟨rfl,ae HE _ _ _⟩
def Ho (c:Nm×Nat):List Value:=[.string c.1.1,.int .i64 c.1.2,.int .i64 c.2]
def tJ (l:List (Nm×Nat)):List Value:=l.flatMap Ho
theorem Pr (l:List (Nm×Nat))(c:Nm×Nat):tJ (l++[c])=tJ l++Ho c:=by simp [tJ]
theorem aee (c:Nm×Nat):∀u∈Ho c,u.oneCell'=true:=by
 intro u hu;simp [Ho] at hu;rcases hu with rfl|rfl|rfl<;>rfl
theorem Kt (m:Mode):(mS m).2.len<=m.len:=by
 have h1:=cP m;have h2:(mF m.name.2).2.len<=m.name.2.len:=by
  unfold mF;split
  . exact bG
  . split
    . exact bG
    . unfold Mode.take
      split
      . exact bG
      . rw [(lj (cj _ 2)).1];exact aN _
 exact aw h2 h1
theorem Dn {m:Mode}(h:(mF m).2.alive):m.alive:=by
 cases m with
 |live t ts=>trivial
 |dead e b=>exact h
theorem Wy {w:World}{p:Nat}{x:cB}{m:Mode}{l:List Tok}(h:cO w p x m l):(MB m).2=(mS m).2/\((mS m).2.alive->(MB m).1=(mS m).1):=by
 have hw:qz m.name.2=qz m.name.2/\∀(q:m.name.2.tk.wf),(qz m.name.2).2=(mF m.name.2).2/\((mF m.name.2).2.alive->(qz m.name.2).1=(mF m.name.2).1):=⟨rfl,λq=>Ww q⟩;obtain ⟨k1,k2⟩:=hw.2 (aai h);refine ⟨k1,λha=>?_⟩;have ha':(mF m.name.2).2.alive:=ha;show ((bn m.tk,m.place),(qz m.name.2).1)=(m.name.1,(mF m.name.2).1);rw [k2 ha',(od m).2 (Dn ha')]
theorem Tryz.MC:(Tryz.prog.info? 163).map (λi=>(i.zero,i.size,i.bytes))=some (some (.agg #[.string ByteArray.empty,.int .i64 0,.int .i64 0]),3,32):=by kernel_rfl
theorem Fs {w:World}{p:Nat}{x:cB}{m:Mode}{l:List Tok}(h:cO w p x m l)(hm:m.len<=600):Calls Tryz.prog 75 #[.pointer (some ⟨p,0,none⟩),.func (.func 76) #[.pointer (some ⟨p,0,none⟩)] #[]] w λr w'=>
 ∃v ls,r=.returned v/\bI w w' p x (cC mS m).2/\w'.ownsRow w.heap.size 163 3 v ls.length (tJ ls)/\((cC mS m).2.alive->ls=(cC mS m).1):=by
 obtain ⟨i0,hi,jS,jD,jv⟩:=uK Tryz.MC;have eB:=h.bN.lt;have H:=hide h;have hq:=Wy h;have HQ:=hide hq;clear h hq;go_enter Tryz.func75,Tryz.ntmps75;go_wp2_with fail;refine (I9 (ae H)).mono ?_;rintro r w1 ⟨rfl,S⟩;rw [(ae HQ).1] at S;have Ip:=Kt m;obtain ⟨x1,l1,h1,sM,pj⟩:=S.ex;obtain ⟨c0,Ev⟩:∃c0,c0=(MB m).1:=⟨_,rfl⟩;have bO:Below w1.heap.size w1 (w1.alloc (.cells #[.string c0.1.1,.int .i64 c0.1.2,.int .i64 c0.2] 163)):=(ag _ _).alloc (af _) _;have Le:=S.keeps.size;have xG:fP w (w1.alloc (.cells #[.string c0.1.1,.int .i64 c0.1.2,.int .i64 c0.2] 163)) p x x1 m (mS m).2 l1 163 3 (.slice (some ⟨w1.heap.size,0,none⟩) 1 1) 1 (tJ [c0]):=
  ⟨h1.below bO,sM,pj,S.keeps.dz (aQ.cQ bO),⟨by simp [tJ,Ho],.inr ⟨w1.heap.size,1,#[.string c0.1.1,.int .i64 c0.1.2,.int .i64 c0.2],rfl,Le,ai w1 _,by simp,by decide,by simp,by simp [tJ,Ho]⟩⟩,by omega,eB,λg hg e=>by
   simp [Value.ownBlock] at hg;have:=(h1.own.lt g e).2;omega⟩
 have Rp:=hide xG;have Rb:=hide Ev;rw [<- Ev];clear S h1 sM pj bO xG Ev;unfold Wx;go_wp2_with fail;go_loopw [5] (λv wr=>∃(x':cB) (m':Mode) (l':List Tok) (ls lp:List (Nm×Nat)) (fuel:Nat),Hid (fP w wr p x x' m m' l' 163 3 v ls.length (tJ ls))/\m'.len<=fuel/\Hid (fm mS fuel lp m'=cC mS m)/\Hid (m'.alive->ls=lp)) (λv _=>2000 - lenOf v)
 case atStart=>exact ⟨x1,_,l1,[c0],[(mS m).1],_,Rp,af _,hide rfl,hide (λha=>by rw [ae Rb,(ae HQ).2 ha])⟩
 case round=>
  obtain ⟨x',m',l',ls,lp,fuel,HL,I7,HC,HE⟩:=hrel;have sS:=uN (ae HL).bN;by_cases hc:aB m'.tk=13
  . have ic:m'.is kj=true:=by rw [sS];simpa using hc
    obtain ⟨pJ,hlen⟩:=(ae HL).bN.goes ic;obtain ⟨f,rfl⟩:∃f,fuel=f+1:=⟨fuel - 1,by omega⟩;have o8:=hide (lS (ae HC) ic);have qK:=hide pJ;have HT:=hide (show Calls Tryz.prog 81 #[.pointer (some ⟨p,0,none⟩),.int .i64 13] wr λr w'=>r=.returned (.bool true)/\bI wr w' p x' m'.next from by
     refine (ji (ae HL).bN 13).mono ?_;rintro r w' ⟨rfl,S⟩;rw [aH hc] at S;exact ⟨by simp [hc],S⟩)
    clear hc ic pJ sS;go_wp2_with fail;refine (ae HT).mono ?_;rintro r w2 ⟨rfl,S2⟩;obtain ⟨x2,l2,L2⟩:=(ae HL).call S2 (by omega);have Cw:=Wy L2.bN;have VR:=hide Cw;have r6:=hide L2;clear S2 L2 Cw;go_wp2_with fail;refine (I9 (ae r6).bN).mono ?_;rintro r w3 ⟨rfl,S3⟩;rw [(ae VR).1] at S3;obtain ⟨c3,OY⟩:∃c3,c3=(MB m'.next).1:=⟨_,rfl⟩;have Mz:=Kt m'.next;have DW:=(ae HL).few;obtain ⟨x3,l3,L3⟩:=(ae r6).call S3 Mz;obtain ⟨va,vc,hv⟩:=kI L3.own;subst hv;have I8:=hide L3;have IE:=hide (L3.own.alloc (.cells #[.string c3.1.1,.int .i64 c3.1.2,.int .i64 c3.2] 163));have Gv:=hide (World.news_of_block (ai w3 (.cells #[.string c3.1.1,.int .i64 c3.1.2,.int .i64 c3.2] 163)));have tq:=L3.keeps.size;have Ps:=hide OY;rw [<- OY];clear S3 L3 OY;unfold Wx;go_wp2_with (at_builtin;refine cA _ rfl _ _ 159 rfl w.heap.size 163 i0 _ 3 32 Tryz.underlying159 hi jS jD jv rfl (by decide) _ _ _ rfl (ae IE) ⟨w3.heap.size,0,none⟩ 1 1 (Ho c3) rfl rfl (ae Gv) (aee c3) (by decide) ?c3 ?c4 ?c5 ?_)
    case c3=>unfold maxLen;omega
    case c4=>omega
    case c5=>simp;omega
    intro g cap w5 br bE bW;have Wv:=(ae I8).app br bE (by simpa using bW) (by omega);have UZ:=hide (show fP w w5 p x x3 m (mS m'.next).2 l3 163 3 (.slice (some ⟨g,0,none⟩) (ls.length+1) cap) (ls++[c3]).length (tJ (ls++[c3])) from by rw [au,Pr];exact Wv);clear br bE bW Wv;go_wp2_with fail;go_roundw
    case rel=>
     refine ⟨x3,_,l3,ls++[c3],_,f,UZ,by omega,o8,hide (λha=>?_)⟩;rw [ae HE (ae qK),ae Ps,(ae VR).2 ha]
    case measure=>exact rZ rfl rfl (by omega)
  . have ic:m'.is kj=false:=by rw [sS];simpa using hc
    have jZ:(lp,m')=cC mS m:=(lT ic).symm.trans (ae HC);have HF:=hide jZ;have HT:=hide (show Calls Tryz.prog 81 #[.pointer (some ⟨p,0,none⟩),.int .i64 13] wr λr w'=>r=.returned (.bool false)/\bI wr w' p x' m' from by
     refine (ji (ae HL).bN 13).mono ?_;rintro r w' ⟨rfl,S⟩;rw [aA hc] at S;exact ⟨by simp [hc],S⟩)
    clear hc ic sS jZ;go_wp2_with fail;refine (ae HT).mono ?_;rintro r w2 ⟨rfl,S2⟩;obtain ⟨x2,l2,L2⟩:=(ae HL).call S2 (af _);have r6:=hide L2;clear S2 L2;go_wp2_with fail;go_ret;refine ⟨_,ls,rfl,?_,(ae r6).own,?_⟩
    . rw [<- ae HF];exact (ae r6).step
    . rw [<- ae HF];exact ae HE
theorem xH {w:World}{p:Nat}{x:cB}{m:Mode}{l:List Tok}(h:cO w p x m l):(if aB m.tk=11 then m.next else m.wrong 2)=m.take cI:=uM (iW (i:=6) h.xF rfl (by decide))
theorem oj {w:World}{p:Nat}{x:cB}{m:Mode}{l:List Tok}(h:cO w p x m l):(if aB m.tk=12 then m.next else m.wrong 2)=m.take eG:=uM (iW (i:=7) h.xF rfl (by decide))
theorem kC {m:Mode}{s:ByteArray}(h:(m.take s).alive):m.alive:=by
 cases m with
 |live t ts=>trivial
 |dead e b=>exact h
theorem Tg {w:World}{p:Nat}{x:cB}{m:Mode}{l:List Tok}(h:cO w p x m l)(hm:m.len<=600):Calls Tryz.prog 55 #[.pointer (some ⟨p,0,none⟩)] w λr w'=>
 ∃v ls,r=.returned (.iface 166 (.agg #[.string (bn m.tk),.int .i64 m.place,v]))/\bI w w' p x ((cC mS (m.name.2.take cI)).2.take eG)/\w'.ownsRow w.heap.size 163 3 v ls.length (tJ ls)/\(((cC mS (m.name.2.take cI)).2.take eG).alive->ls=(cC mS (m.name.2.take cI)).1):=by
 have H:=hide h;have eB:=h.bN.lt;have l1:=cP m;clear h;go_enter Tryz.func55,Tryz.ntmps55;go_wp2_with fail;refine (jk (ae H)).mono ?_;rintro r w1 ⟨rfl,S1⟩;obtain ⟨x1,t1,h1,sM,pj⟩:=S1.ex;have bL:Below w1.heap.size w1 (w1.alloc (.cells #[.string (bn m.tk),.int .i64 m.place] 106)):=(ag _ _).alloc (af _) _;have H1:=hide (h1.below bL);have K1:=hide (S1.keeps.dz (aQ.cQ bL));have D1:=hide sM;have R1:=hide pj;have QR:=h1.bN.lt;clear S1 h1 sM pj bL;go_wp2_with fail;refine (gK (ae H1) 11).mono ?_;rintro r w2 ⟨rfl,S2⟩;rw [xH (ae H1)] at S2;have l2:(m.name.2.take cI).len<=m.name.2.len:=by
  unfold Mode.take;split
  . exact bG
  . rw [(lj (cj _ 2)).1];exact aN _
 have ahY:w2.heap[w1.heap.size]?=some (.cells #[.string (bn m.tk),.int .i64 m.place] 106 (0,0)):=mP.block S2 (ai w1 _) (by omega);have AA:=bI.trans (x:=x) (ae K1) (ae D1) (ae R1) S2;obtain ⟨x2,t2,h2,I5,N3⟩:=AA.ex;have H2:=hide h2;have K2:=hide AA.keeps;have D2:=hide I5;have R2:=hide N3;have B2:=hide ahY;clear S2 AA h2 I5 N3 ahY;unfold iZ;go_wp2_with fail;refine (Fs (ae H2) (by omega)).mono ?_;rintro r w3 ⟨v,ls,rfl,S3,ho,he⟩;have Ft:w3.heap[w1.heap.size]?=some (.cells #[.string (bn m.tk),.int .i64 m.place] 106 (0,0)):=mP.block S3 (ae B2) (by omega);have nQ:=(ae K2).size;have xI:=bI.trans (x:=x) (ae K2) (ae D2) (ae R2) S3;obtain ⟨x3,t3,h3,hd3,Pk⟩:=xI.ex;obtain ⟨va,vc,hv⟩:=kI ho;have H3:=hide h3;have K3:=hide xI.keeps;have D3:=hide hd3;have R3:=hide Pk;have B3:=hide Ft;have HO:=hide (cL ho nQ);have HE:=hide he;have tq:=xI.keeps.size;clear S3 xI h3 hd3 Pk Ft ho he;subst hv;go_wp2_with fail;refine (gK (ae H3) 12).mono ?_;rintro r w4 ⟨rfl,S4⟩;rw [oj (ae H3)] at S4;have zn:w4.heap[w1.heap.size]?=some (.cells #[.string (bn m.tk),.int .i64 m.place] 106 (0,0)):=mP.block S4 (ae B3) (by omega);have u0:w4.cell? ⟨w1.heap.size,0,none⟩=some (.string (bn m.tk)):=by simp [World.cell?,zn]
 have u1:w4.cell? ⟨w1.heap.size,1,none⟩=some (.int .i64 m.place):=by simp [World.cell?,zn]
 have HS:=hide (bI.trans (x:=x) (ae K3) (ae D3) (ae R3) S4);have HO4:=hide (jQ (ae HO) S4.keeps (λg hg=>⟨by have:=((ae HO).lt g hg).1;omega,((ae HO).lt g hg).2⟩));clear S4 zn;unfold iZ;go_wp2_with fail;go_ret;exact ⟨_,ls,rfl,ae HS,ae HO4,λha=>ae HE (kC ha)⟩
def fE (k:Tk):Nat×Nat×ByteArray×Bool:=
 if aB k=3 then (0,dt k,⟨#[]⟩,true)
 else if aB k=4 then (1,0,bn k,true)
 else if aB k=40 then (2,1,⟨#[]⟩,true)
 else if aB k=41 then (2,0,⟨#[]⟩,true)
 else (0,0,⟨#[]⟩,false)
theorem Ja (k:Tk)(pl:Nat)(w:World):Calls Tryz.prog 132 #[iZ k pl] w λr w'=>
 r=.returned (.tuple #[.int .i64 (fE k).1,.agg #[.bool false,.int .i64 (fE k).2.1,.string (fE k).2.2.1],.bool (fE k).2.2.2])/\Below w.heap.size w w':=by
 unfold iZ;by_cases h3:aB k=3
 . have e3:((aB k:Int)==3)=true:=by rw [bz];omega
   have hr:fE k=(0,dt k,⟨#[]⟩,true):=aH h3;rw [hr];clear h3;go_enter Tryz.func132,Tryz.ntmps132;go_wp2_with fail;go_region
   all_goals
    (try go_wp2_with fail)
    (try simp only [Exit.inBlock,Exit.then])
    refine ay (v:=.tuple #[.int .i64 (0:Nat),.agg #[.bool false,.int .i64 (dt k:Nat),.string ⟨#[]⟩],.bool true]) (by simp [results,Tryz.results132,go_sem];try rfl) rfl ?_;exact ⟨rfl,by first|exact aJ (((ag _ _).alloc (af _) _).alloc (by simp) _)|exact ((ag _ _).alloc (af _) _).alloc (by simp) _⟩
 . by_cases h4:aB k=4
   . have e3:((aB k:Int)==3)=false:=by rw [aj];omega
     have e4:((aB k:Int)==4)=true:=by rw [bz];omega
     have hr:fE k=(1,0,bn k,true):=(aA h3).trans (aH h4);rw [hr];clear h3 h4;go_enter Tryz.func132,Tryz.ntmps132;go_wp2_with fail;go_region
     all_goals
      (try go_wp2_with fail)
      (try simp only [Exit.inBlock,Exit.then])
      refine ay (v:=.tuple #[.int .i64 (1:Nat),.agg #[.bool false,.int .i64 (0:Nat),.string (bn k)],.bool true]) (by simp [results,Tryz.results132,go_sem];try rfl) rfl ?_;exact ⟨rfl,by first|exact aJ (((ag _ _).alloc (af _) _).alloc (by simp) _)|exact ((ag _ _).alloc (af _) _).alloc (by simp) _⟩
   . by_cases CG:aB k=40
     . have e3:((aB k:Int)==3)=false:=by rw [aj];omega
       have e4:((aB k:Int)==4)=false:=by rw [aj];omega
       have e40:((aB k:Int)==40)=true:=by rw [bz];omega
       have hr:fE k=(2,1,⟨#[]⟩,true):=(aA h3).trans ((aA h4).trans (aH CG));rw [hr];clear h3 h4 CG;go_enter Tryz.func132,Tryz.ntmps132;go_wp2_with fail
       (try simp only [Exit.inBlock,Exit.then])
       refine ay (v:=.tuple #[.int .i64 (2:Nat),.agg #[.bool false,.int .i64 (1:Nat),.string ⟨#[]⟩],.bool true]) (by simp [results,Tryz.results132,go_sem];try rfl) rfl ?_;exact ⟨rfl,by first|exact aJ (((ag _ _).alloc (af _) _).alloc (by simp) _)|exact ((ag _ _).alloc (af _) _).alloc (by simp) _⟩
     . by_cases Pt:aB k=41
       . have e3:((aB k:Int)==3)=false:=by rw [aj];omega
         have e4:((aB k:Int)==4)=false:=by rw [aj];omega
         have e40:((aB k:Int)==40)=false:=by rw [aj];omega
         have e41:((aB k:Int)==41)=true:=by rw [bz];omega
         have hr:fE k=(2,0,⟨#[]⟩,true):=(aA h3).trans ((aA h4).trans ((aA CG).trans (aH Pt)));rw [hr];clear h3 h4 CG Pt;go_enter Tryz.func132,Tryz.ntmps132;go_wp2_with fail
         (try simp only [Exit.inBlock,Exit.then])
         refine ay (v:=.tuple #[.int .i64 (2:Nat),.agg #[.bool false,.int .i64 (0:Nat),.string ⟨#[]⟩],.bool true]) (by simp [results,Tryz.results132,go_sem];try rfl) rfl ?_;exact ⟨rfl,by first|exact aJ (((ag _ _).alloc (af _) _).alloc (by simp) _)|exact ((ag _ _).alloc (af _) _).alloc (by simp) _⟩
       . have e3:((aB k:Int)==3)=false:=by rw [aj];omega
         have e4:((aB k:Int)==4)=false:=by rw [aj];omega
         have e40:((aB k:Int)==40)=false:=by rw [aj];omega
         have e41:((aB k:Int)==41)=false:=by rw [aj];omega
         have hr:fE k=(0,0,⟨#[]⟩,false):=(aA h3).trans ((aA h4).trans ((aA CG).trans (aA Pt)));rw [hr];clear h3 h4 CG Pt;go_enter Tryz.func132,Tryz.ntmps132;go_wp2_with fail
         (try simp only [Exit.inBlock,Exit.then])
         refine ay (v:=.tuple #[.int .i64 (0:Nat),.agg #[.bool false,.int .i64 (0:Nat),.string ⟨#[]⟩],.bool false]) (by simp [results,Tryz.results132,go_sem];try rfl) rfl ?_;exact ⟨rfl,by first|exact aJ (((ag _ _).alloc (af _) _).alloc (by simp) _)|exact ((ag _ _).alloc (af _) _).alloc (by simp) _⟩
def opsL:List Nat:=[0,0,0,0,0,6,8,10,5,7,9,0,0,0,0,0,0,1,2,3,4,0,0,0,0,0,0,0,0,0,0,0,0,0,0,11,12]
def dK (w:World):Prop:=∀i n,opsL[i]?=some n->w.cell? ⟨8,i,none⟩=some (.int .i64 (n:Nat))
def ahZ (s:ByteArray):Nat:=if ei.any (kh s) then 5+sL ei s else 21+sL bS s
def fq (s:ByteArray):Nat:=opsL.getD (ahZ s) 0
def Ku (k:Nat)(n:Int)(s:ByteArray):Value:=.iface 342 (.agg #[.int .i64 k,.bool false,.int .i64 n,.string s])
def qL:Ex->Value
 |.num n=>Ku 0 n ⟨#[]⟩
 |.str s=>Ku 1 0 s
 |.bool b=>Ku 2 (if b then 1 else 0) ⟨#[]⟩
 |.col s a=>.iface 106 (.agg #[.string s,.int .i64 a])
 |.neg a x=>.iface 329 (.agg #[.int .i64 13,.int .i64 a,qL x])
 |.not a x=>.iface 329 (.agg #[.int .i64 14,.int .i64 a,qL x])
 |.lZ no _ x=>.iface 331 (.agg #[qL x,.bool no])
 |.two op a x y=>.iface 311 (.agg #[.int .i64 (fq op),.int .i64 a,qL x,qL y])
 |.junk=>Ku 0 0 ⟨#[]⟩
theorem ek (e:Ex):∃t v,qL e=.iface t v:=by
 cases e<;>exact ⟨_,_,rfl⟩
structure PG (w w1:World)(p:Nat)(x x1:cB)(m1:Mode)(l1:List Tok):Prop where
 bN:cO w1 p x1 m1 l1
 depth:x1.depth=x.depth
 row:tI w x x1
 keeps:aQ (Other p w) w w1
 lp:p<w.heap.size
section
variable {w w1 w2:World} {p:Nat} {x x1:cB} {m m1 m2:Mode} {l l1:List Tok}
theorem PG.start (h:cO w p x m l):PG w w p x x m l:=⟨h,rfl,λ_ h=>.inl h,aQ.cQ (ag _ _),h.bN.lt⟩
theorem PG.step (h:PG w w1 p x x1 m1 l1):bI w w1 p x m1:=⟨⟨x1,l1,h.bN,h.depth,h.row⟩,h.keeps⟩
theorem PG.call (h:PG w w1 p x x1 m1 l1)(S:bI w1 w2 p x1 m2):∃x2 l2,PG w w2 p x x2 m2 l2:=by
 have hS:=bI.trans h.keeps h.depth h.row S;obtain ⟨x2,l2,h2,I5,N3⟩:=hS.ex;exact ⟨x2,l2,h2,I5,N3,hS.keeps,h.lp⟩
theorem PG.below (h:PG w w1 p x x1 m1 l1)(hb:Below w1.heap.size w1 w2):PG w w2 p x x1 m1 l1:=
 ⟨h.bN.below hb,h.depth,h.row,h.keeps.dz (aQ.cQ hb),h.lp⟩
theorem PG.block (h:PG w w1 p x x1 m1 l1){k:Nat}{o:Obj}(hk:w.heap[k]?=some o)(hp:k≠p):w1.heap[k]?=some o:=(h.keeps.block k ⟨hp,fK hk⟩).trans hk
theorem PG.lt (h:PG w w1 p x x1 m1 l1):p<w1.heap.size:=h.bN.bN.lt
end
theorem dK.keep {w w':World}{p:Nat}(h:dK w)(k:aQ (Other p w) w w')(hp:12<=p)(hl:p<w.heap.size):dK w':=λi n hn=>by
 have hb:=k.block 8 ⟨by omega,by omega⟩;have h1:=h i n hn;simp only [World.cell?] at h1 ⊢;rw [hb];exact h1
theorem dK.below {w w':World}{B:Nat}(h:dK w)(hb:Below B w w')(hB:8<B):dK w':=λi n hn=>(hb.cell (p:=⟨8,i,none⟩) hB).trans (h i n hn)
theorem mY.keep {w w':World}{p g:Nat}{ks:List Nat}(h:mY w g ks)(k:aQ (Other p w) w w')(hp:g≠p)(hl:g<w.heap.size):mY w' g ks:=λj hj=>by
 have hb:=k.block g ⟨hp,hl⟩;have h1:=h j hj;simp only [World.cell?] at h1 ⊢;rw [hb];exact h1
def MD (w:World)(p:Nat):Nat:=
 match w.cell? ⟨p,0,none⟩,w.cell? ⟨p,1,none⟩,w.cell? ⟨p,3,none⟩ with
 |some (.slice _ n _),some (.int _ q),some (.int _ e)=>if e=0 then n - q.toNat else 0
 |_,_,_=>0
theorem cO.left {w:World}{p:Nat}{x:cB}{m:Mode}{l:List Tok}(h:cO w p x m l):MD w p=m.len:=by
 obtain ⟨g,cap,hv,cF,-⟩:=h.slice;have p0:w.cell? ⟨p,0,none⟩=some (.slice (some ⟨g,0,none⟩) l.length cap):=(h.bN.cell 0).trans (by rw [<- hv];rfl);have p1:w.cell? ⟨p,1,none⟩=some (.int .i64 x.pos):=h.bN.cell 1;have p3:w.cell? ⟨p,3,none⟩=some (.int .i64 x.e):=h.bN.cell 3;unfold MD;rw [p0,p1,p3];have hm:=h.mode
 cases m with
 |dead e b=>
   obtain ⟨h1,-,h3,-⟩:=hm;have:¬((x.e:Int)=0):=by omega
   simp only [this,if_false];rfl
 |live t ts=>
   obtain ⟨h1,h2⟩:=hm;have:((x.e:Int)=0):=by omega
   have h3:=aU List.length h2;rw [cu] at h3;simp only [this,if_true];simp only [List.length_cons] at h3;show l.length - x.pos=ts.length+1;exact h3
def fL (S:Mode->Ex×Mode):Prop:=∀m,(S m).2.len<=m.len
theorem ig {m:Mode}:m.alive↔1<=m.len:=by
 cases m with
 |live t ts=>exact ⟨λ_=>by simp [Mode.len],λ_=>trivial⟩
 |dead e b=>exact ⟨λh=>absurd h (λh=>h),λh=>by simp [Mode.len] at h⟩
theorem fL.back {S:Mode->Ex×Mode}(h:fL S){m:Mode}(ha:(S m).2.alive):m.alive:=ig.mpr (aw (ig.mp ha) (h m))
theorem ij (m:Mode)(s:ByteArray):(m.take s).len<=m.len:=by
 unfold Mode.take;split
 . exact bG
 . rw [(lj (cj _ 2)).1];exact aN _
theorem mZ (m:Mode)(e:Nat):(m.wrong e).len<=m.len:=by rw [(lj (cj _ e)).1];exact aN _
theorem fL.chain {S:Mode->Ex×Mode}(h:fL S)(ops:List ByteArray):∀n e m,(l9 S ops n e m).2.len<=m.len:=by
 intro n
 induction n with
 |zero=>exact λe m=>af _
 |succ n ih=>
   intro e m;unfold l9;split
   . exact aw (ih _ _) (aw (h _) bG)
   . exact af _
theorem fL.links {S:Mode->Ex×Mode}(h:fL S)(ops:List ByteArray):fL (qk S ops):=λm=>aw (h.chain ops _ _ _) (h m)
def rC:Option vI->Prop
 |none=>True
 |some l=>fL l.expr/\fL l.J6/\fL l.turn
theorem fL.atom {sub:Option vI}(h:rC sub):fL (gM sub):=λm=>by
 unfold gM;split
 . cases sub with
   |none=>exact mZ m 3
   |some l=>exact aw (ij _ _) (aw (h.1 _) bG)
 . split
   . exact bG
   . exact bG
   . exact bG
   . split
     . exact bG
     . split
       . exact bG
       . exact mZ m 2
   . exact mZ m 2
theorem fL.turn {sub:Option vI}(h:rC sub):fL (gN sub):=λm=>by
 unfold gN;split
 . cases sub with
   |none=>exact mZ m 3
   |some l=>exact aw (h.2.2 _) bG
 . exact fL.atom h m
theorem fL.part {sub:Option vI}(h:rC sub):fL (zV sub):=(fL.turn h).links _
theorem fL.total {sub:Option vI}(h:rC sub):fL (iB sub):=(fL.part h).links _
theorem fL.test {sub:Option vI}(h:rC sub):fL (mo sub):=λm=>by
 have ht:=fL.total h;unfold mo;simp only;split
 . exact aw (ht _) (aw bG (ht m))
 . split
   . refine aw (ij _ _) (aw ?_ (ht m))
     split
     . exact aw bG bG
     . exact bG
   . exact ht m
theorem fL.J6 {sub:Option vI}(h:rC sub):fL (gO sub):=λm=>by
 unfold gO;split
 . cases sub with
   |none=>exact mZ m 3
   |some l=>exact aw (h.2.1 _) bG
 . exact fL.test h m
theorem fL.both {sub:Option vI}(h:rC sub):fL (zW sub):=(fL.J6 h).links _
theorem fL.expr {sub:Option vI}(h:rC sub):fL (j9 sub):=(fL.both h).links _
theorem BO:∀d,rC (lvl d)
 |0=>trivial
 |d+1=>⟨fL.expr (BO d),fL.J6 (BO d),fL.turn (BO d)⟩
theorem ME (m:Mode):(nR m).2.len<=m.len:=fL.expr (BO 8) m
theorem cO.Pu {w:World}{p:Nat}{x:cB}{m:Mode}{l:List Tok}(h:cO w p x m l):m.len<=400:=by
 have hm:=h.mode;have hf:=h.few
 cases m with
 |dead e b=>exact aN _
 |live t ts=>
   have h3:=aU List.length hm.2;rw [cu] at h3;simp only [List.length_cons] at h3;show ts.length+1<=400;omega
def uO (Q:Nat->Mode->Prop):Prop:=∀d m m',Q d m->(m'.alive->m.alive)->Q d m'
def vB (f:Nat)(S:Mode->Ex×Mode)(Q:Nat->Mode->Prop):Prop:=
 ∀(w:World) (p:Nat) (x:cB) (m:Mode) (l:List Tok),cO w p x m l->dK w->12<=p->Q x.depth m->Calls Tryz.prog f #[.pointer (some ⟨p,0,none⟩)] w λr w'=>
   ∃e,r=.returned (qL e)/\bI w w' p x (S m).2/\((S m).2.alive->e=(S m).1)
def Fu (L:List (ByteArray×Nat)):Prop:=∀m:Mode,m.tk.wf->∀q∈L,m.is q.1=decide (aB m.tk=q.2)/\opsL[q.2]?=some (fq q.1)
theorem Fv {L:List (ByteArray×Nat)}(h:Fu L){m:Mode}(hw:m.tk.wf) :
 (aB m.tk∈L.map (·.2)->∃o,(L.map (·.1)).find? (λo=>m.is o)=some o/\opsL[aB m.tk]?=some (fq o)/\m.is o=true)/\(¬aB m.tk∈L.map (·.2)->(L.map (·.1)).find? (λo=>m.is o)=none):=by
 induction L with
 |nil=>exact ⟨λh=>by simp at h,λ_=>rfl⟩
 |cons q L ih=>
   have hq:=h m hw q (by simp);have ih':=ih (λm hm q hq=>h m hm q (dY _ hq));simp only [List.map_cons,List.mem_cons,List.find?_cons];by_cases he:aB m.tk=q.2
   . have h1:m.is q.1=true:=by rw [hq.1];simpa using he
     refine ⟨λ_=>⟨q.1,by rw [h1],by rw [he];exact hq.2,h1⟩,λhn=>absurd (Or.inl he) hn⟩
   . have h1:m.is q.1=false:=by rw [hq.1];simpa using he
     rw [h1];refine ⟨λhm=>ih'.1 (hm.resolve_left he),λhn=>ih'.2 (λhm=>hn (.inr hm))⟩
theorem Fw {m:Mode}(h:m.next.alive):m.alive:=by
 cases m with
 |live t ts=>trivial
 |dead e b=>exact h
def koF:Ex->Nat
 |.col _ _=>214
 |.neg _ _=>314
 |.not _ _=>314
 |.lZ _ _ _=>315
 |.two _ _ _ _=>311
 |_=>316
def uh (e:Ex):Value:=match qL e with
 |.iface _ v=>v
 |v=>v
def zo (r:Ending):Nat ⊕ (Nat×Nat)->Prop
 |.inl k=>r=.returned (.tuple #[.int .i64 (k:Nat),.agg #[.int .i64 0,.int .i64 0]])
 |.inr q=>∃k:Nat,r=.returned (.tuple #[.int .i64 k,.agg #[.int .i64 q.1,.int .i64 q.2]])
theorem uP (e:Ex):∃te,qL e=.iface te (uh e)/\(∀w,Sem.run Tryz.prog (method 519 te (uh e) "quarry/quarry.kindOver") w=.ok (koF e,uh e) w)/\(∀(args:Array Value) (w:World),Sem.run Tryz.prog (callFunc (koF e) args) w=.ok (.enter (koF e) args) w):=by
 cases e with
 |num n=>exact ⟨_,rfl,λw=>by kernel_rfl,Tryz.call316⟩
 |str n=>exact ⟨_,rfl,λw=>by kernel_rfl,Tryz.call316⟩
 |bool n=>exact ⟨_,rfl,λw=>by kernel_rfl,Tryz.call316⟩
 |junk=>exact ⟨_,rfl,λw=>by kernel_rfl,Tryz.call316⟩
 |col s a=>exact ⟨_,rfl,λw=>by kernel_rfl,Tryz.call214⟩
 |neg a x=>exact ⟨_,rfl,λw=>by kernel_rfl,Tryz.call314⟩
 |not a x=>exact ⟨_,rfl,λw=>by kernel_rfl,Tryz.call314⟩
 |lZ no a x=>exact ⟨_,rfl,λw=>by kernel_rfl,Tryz.call315⟩
 |two op a x y=>exact ⟨_,rfl,λw=>by kernel_rfl,Tryz.call311⟩
def Fx (cols:List cU)(cv:Value)(e:Ex):Prop:=∀w,gq w cv cols->Calls Tryz.prog (koF e) #[uh e,cv] w λr w'=>zo r (cV cols e)/\Below w.heap.size w w'
theorem ah0 {w1:World}{r:Nat}{a b a' b':Value}{t:TypeId}(h:w1.heap[r]?=some (.cells #[a,b] t (0,0)))(o:Obj):(((w1.setCell ⟨r,0,none⟩ a').setCell ⟨r,1,none⟩ b').alloc o).cell? ⟨r,0,none⟩=some a'/\(((w1.setCell ⟨r,0,none⟩ a').setCell ⟨r,1,none⟩ b').alloc o).cell? ⟨r,1,none⟩=some b':=by
 refine ez (t:=t) ((bA _ _ _ ?_).trans (aO _ _ 1 _ _ _ (aO _ _ 0 _ _ _ h)));simpa [World.setCell] using az h
section
variable {cols:List cU} {cv:Value}
theorem aan {no:Bool}{a:Nat}{x:Ex}(ih:Fx cols cv x):Fx cols cv (.lZ no a x):=by
 intro w hc;obtain ⟨te,jW,hm,U1⟩:=uP x;obtain ⟨W,hW⟩:∃W,W=(w.alloc (.cells #[.iface te (uh x),.bool no] 331)).alloc (.cells #[.int .i64 0,.int .i64 0] 72):=⟨_,rfl⟩;have hb:Below w.heap.size w W:=by rw [hW];exact ((ag _ _).alloc (af _) _).alloc (by simp) _
 have hR:W.heap[w.heap.size+1]?=some (.cells #[.int .i64 0,.int .i64 0] 72 (0,0)):=by rw [hW];have:=ai (w.alloc (.cells #[.iface te (uh x),.bool no] 331)) (.cells #[.int .i64 0,.int .i64 0] 72);simpa using this
 have hS:W.heap[w.heap.size]?=some (.cells #[.iface te (uh x),.bool no] 331 (0,0)):=by rw [hW];exact (bA _ _ _ (by simp)).trans (ai w (.cells #[.iface te (uh x),.bool no] 331))
 have HI:=hide (ih W (hc.below hb (af _)));have HB:=hide hb;have HR:=hide hR;have HW:=hide hW;obtain ⟨va,cJ,hv⟩:=hc.slice;subst hv;show Calls Tryz.prog 315 #[.agg #[qL x,.bool no],_] w _;rw [jW];clear hc hb hR hW hS;go_enter Tryz.func315,Tryz.ntmps315;go_wp2_with fail;rw [<- ae HW];refine (ae HI).mono ?_;rintro r w1 ⟨hr,bL⟩;have sV:=(bL.block _ (az (ae HR))).trans (ae HR);have eI:=hide ((ae HB).trans (bL.mono (ae HB).size));have Db:=az sV;obtain ⟨e,b,k1,hke,hre⟩:∃(e b k1:Nat),zo (.returned (.tuple #[.int .i64 2,.agg #[.int .i64 e,.int .i64 b]])) (cV cols (.lZ no a x))/\r=.returned (.tuple #[.int .i64 k1,.agg #[.int .i64 e,.int .i64 b]]):=by
  cases hk:cV cols x with
  |inl k=>rw [hk] at hr;exact ⟨0,0,k,by simp only [cV,hk];rfl,hr⟩
  |inr q=>rw [hk] at hr;obtain ⟨k,hr⟩:=hr;exact ⟨q.1,q.2,k,by simp only [cV,hk];exact ⟨2,rfl⟩,hr⟩
 subst hre;have UU:=hide hke;have yS:=(bA w1 (.cells #[.int .i64 e,.int .i64 b] 72) _ Db).trans sV;obtain ⟨q0,q1⟩:=ez yS;have z0:=aK yS 0;have z1:=aK yS 1;obtain ⟨p0,p1⟩:=ez sV;obtain ⟨t0,t1⟩:=ah0 (a':=.int .i64 (e:Nat)) (b':=.int .i64 (b:Nat)) sV (.cells #[.int .i64 e,.int .i64 b] 72);have y0:=aK sV 0;have y1:=aK sV 1;clear bL hr hke sV yS;go_wp2_with fail;go_region
 all_goals
  (try go_wp2_with fail)
  (try simp only [Exit.inBlock,Exit.then])
  refine ay (v:=.tuple #[.int .i64 2,.agg #[.int .i64 e,.int .i64 b]]) (by simp [results,Tryz.results315,go_sem,t0,t1];try rfl) rfl ?_;exact ⟨ae UU,by repeat (first|exact ae eI|refine aJ ?_|refine below_drewN ?_ _|refine cy ?_ (by simp) _|refine df ?_ (by simp;omega) _)⟩
end
theorem Pv {cols:List cU}{s:ByteArray}:(∀i,J7 cols s=some i->∃c,cols[i]?=some c/\cols.find? (λc=>kh c.1 s)=some c)/\(J7 cols s=none->cols.find? (λc=>kh c.1 s)=none):=by
 unfold J7;constructor
 . intro i hi
   rw [gL] at hi;obtain ⟨cF,h1,h2⟩:=hi;refine ⟨cols[i],ah cF,?_⟩;rw [List.find?_eq_some_iff_getElem];exact ⟨h1,i,cF,rfl,λj hj=>by simpa using h2 j hj⟩
 . intro h
   rw [List.findIdx?_eq_none_iff] at h;rw [List.find?_eq_none];intro c hc;simp [h c hc]
theorem Kw (k:Nat)(n:Int)(s:ByteArray)(cv:Value)(w:World):Calls Tryz.prog 316 #[.agg #[.int .i64 k,.bool false,.int .i64 n,.string s],cv] w λr w'=>r=.returned (.tuple #[.int .i64 k,.agg #[.int .i64 0,.int .i64 0]])/\Below w.heap.size w w':=by
 go_enter Tryz.func316,Tryz.ntmps316;go_wp2_with fail
 (try simp only [Exit.inBlock,Exit.then])
 refine ay (v:=.tuple #[.int .i64 k,.agg #[.int .i64 0,.int .i64 0]]) (by simp [results,Tryz.results316,go_sem];try rfl) rfl ?_;exact ⟨rfl,((ag _ _).alloc (af _) _).alloc (by simp) _⟩
theorem aef (cols:List cU)(cv:Value)(hl:cols.length<=100000)(s:ByteArray)(a:Nat):Fx cols cv (.col s a):=by
 intro w hc;obtain ⟨W,hW⟩:∃W,W=(w.alloc (.cells #[.string s,.int .i64 a] 106)).alloc (.cells #[.int .i64 0,.int .i64 0] 72):=⟨_,rfl⟩;have hb:Below w.heap.size w W:=by rw [hW];exact ((ag _ _).alloc (af _) _).alloc (by simp) _
 have hR:W.heap[w.heap.size+1]?=some (.cells #[.int .i64 0,.int .i64 0] 72 (0,0)):=by rw [hW];have:=ai (w.alloc (.cells #[.string s,.int .i64 a] 106)) (.cells #[.int .i64 0,.int .i64 0] 72);simpa using this
 have hS:W.heap[w.heap.size]?=some (.cells #[.string s,.int .i64 a] 106 (0,0)):=by rw [hW];exact (bA _ _ _ (by simp)).trans (ai w (.cells #[.string s,.int .i64 a] 106))
 have HI:=hide (DR cols cv s W (hc.below hb (af _)) hl);have HC:=hide (hc.below hb (af _));have HB:=hide hb;have HR:=hide hR;have HS:=hide hS;have HW:=hide hW;obtain ⟨va,cJ,hv⟩:=hc.slice;subst hv;show Calls Tryz.prog 214 #[.agg #[.string s,.int .i64 a],_] w _;clear hc hb hR hW hS;go_enter Tryz.func214,Tryz.ntmps214;go_wp2_with fail;rw [<- ae HW];refine (ae HI).mono ?_;rintro r w1 ⟨rfl,bL⟩;have sV:=(bL.block _ (az (ae HR))).trans (ae HR);have BP:=(bL.block _ (az (ae HS))).trans (ae HS);have eI:=hide ((ae HB).trans (bL.mono (ae HB).size));obtain ⟨p0,p1⟩:=ez sV;have y0:=aK sV 0;have y1:=aK sV 1;obtain ⟨s0,s1⟩:=ez BP;have YD:=hide sV;have hfa:=Pv (cols:=cols) (s:=s)
 cases J9:J7 cols s with
 |none=>
   have hiv:yN cols s=-1:=by unfold yN;rw [J9]
   have xJ:=hide (show zo (.returned (.tuple #[.int .i64 (0:Nat),.agg #[.int .i64 (5:Nat),.int .i64 a]])) (cV cols (.col s a)) from by simp only [cV,hfa.2 J9];exact ⟨0,rfl⟩);rw [hiv];clear bL sV BP hfa J9 hiv;go_wp2_with fail;go_region
   all_goals
    (try go_wp2_with fail)
    (try simp only [Exit.inBlock,Exit.then])
    refine ay (v:=.tuple #[.int .i64 0,.agg #[.int .i64 5,.int .i64 a]]) (by simp [results,Tryz.results214,go_sem,p0,p1];try rfl) rfl ?_;exact ⟨ae xJ,by repeat (first|exact ae eI|refine aJ ?_|refine below_drewN ?_ _|refine cy ?_ (by simp) _|refine df ?_ (by simp;omega) _)⟩
 |some i=>
   have hiv:yN cols s=(i:Nat):=by unfold yN;rw [J9]
   obtain ⟨c,kM,U1⟩:=hfa.1 i J9;have QT:(i:Int)<cols.length:=by have:=(ak.mp kM).1;omega
   obtain ⟨cg,co,LW,hce,d0,d1⟩:=((ae HC).below bL (af _)).get kM
   cases hce
   have xJ:=hide (show zo (.returned (.tuple #[.int .i64 c.2,.agg #[.int .i64 0,.int .i64 0]])) (cV cols (.col s a)) from by simp only [cV,U1];rfl);rw [hiv];clear bL sV BP hfa J9 hiv kM U1;go_wp2_with fail
   (try go_region)
   all_goals
    (try go_wp2_with fail)
    (try simp only [Exit.inBlock,Exit.then])
    refine ay (v:=.tuple #[.int .i64 c.2,.agg #[.int .i64 0,.int .i64 0]]) (by simp [results,Tryz.results214,go_sem,p0,p1];try rfl) rfl ?_;exact ⟨ae xJ,by repeat (first|exact ae eI|refine aJ ?_|refine below_drewN ?_ _|refine cy ?_ (by simp) _|refine df ?_ (by simp;omega) _)⟩
theorem MF (cols:List cU):∀(e:Ex) {q:Nat×Nat},cV cols e=.inr q->¬q.1=0/\(q.1=5\/q.1=7):=by
 intro e
 induction e with
 |num n=>intro q h;cases h
 |str n=>intro q h;cases h
 |bool n=>intro q h;cases h
 |junk=>intro q h;cases h
 |col s a=>
   intro q h;simp only [cV] at h;split at h
   . cases h
   . cases h;exact ⟨by simp,.inl rfl⟩
 |lZ no a x ih=>
   intro q h;simp only [cV] at h;split at h
   . cases h;exact ih (by assumption)
   . cases h
 |neg a x ih=>
   intro q h;simp only [cV] at h;split at h
   . cases h;exact ih (by assumption)
   . split at h
     . cases h
     . cases h;exact ⟨by simp,.inr rfl⟩
 |not a x ih=>
   intro q h;simp only [cV] at h;split at h
   . cases h;exact ih (by assumption)
   . split at h
     . cases h
     . cases h;exact ⟨by simp,.inr rfl⟩
 |two op a x y Ru Rv=>
   intro q h;simp only [cV] at h;split at h
   . cases h;exact Ru (by assumption)
   . split at h
     . cases h;exact Rv (by assumption)
     . generalize (if ql op=true then (0:Nat) else 2)=wt at h
       split at h
       . cases h;exact ⟨by simp,.inr rfl⟩
       . cases h
theorem wP {cols:List cU}{x:Ex}{r:Ending}(hr:zo r (cV cols x)):∃(k e b:Nat),r=.returned (.tuple #[.int .i64 k,.agg #[.int .i64 e,.int .i64 b]])/\((e=0/\b=0/\cV cols x=.inl k)\/(e≠0/\cV cols x=.inr (e,b))):=by
 cases hk:cV cols x with
 |inl k=>rw [hk] at hr;exact ⟨k,0,0,hr,.inl ⟨rfl,rfl,rfl⟩⟩
 |inr q=>rw [hk] at hr;obtain ⟨k,hr⟩:=hr;exact ⟨k,q.1,q.2,hr,.inr ⟨(MF cols x hk).1,rfl⟩⟩
theorem aeg {cols:List cU}{cv:Value}{a:Nat}{x:Ex}(ih:Fx cols cv x):Fx cols cv (.neg a x):=by
 intro w hc;obtain ⟨te,jW,hm,U1⟩:=uP x;obtain ⟨W,hW⟩:∃W,W=(w.alloc (.cells #[.int .i64 13,.int .i64 a,.iface te (uh x)] 329)).alloc (.cells #[.int .i64 0,.int .i64 0] 72):=⟨_,rfl⟩;have hb:Below w.heap.size w W:=by rw [hW];exact ((ag _ _).alloc (af _) _).alloc (by simp) _
 have hR:W.heap[w.heap.size+1]?=some (.cells #[.int .i64 0,.int .i64 0] 72 (0,0)):=by rw [hW];have:=ai (w.alloc (.cells #[.int .i64 13,.int .i64 a,.iface te (uh x)] 329)) (.cells #[.int .i64 0,.int .i64 0] 72);simpa using this
 have hS:W.heap[w.heap.size]?=some (.cells #[.int .i64 13,.int .i64 a,.iface te (uh x)] 329 (0,0)):=by rw [hW];exact (bA _ _ _ (by simp)).trans (ai w (.cells #[.int .i64 13,.int .i64 a,.iface te (uh x)] 329))
 have HI:=hide (ih W (hc.below hb (af _)));have HC:=hide (hc.below hb (af _));have HB:=hide hb;have HR:=hide hR;have HS:=hide hS;have HW:=hide hW;obtain ⟨va,cJ,hv⟩:=hc.slice;subst hv;show Calls Tryz.prog 314 #[.agg #[.int .i64 13,.int .i64 a,qL x],_] w _;clear hc hb hR hW hS;rw [jW];go_enter Tryz.func314,Tryz.ntmps314;go_wp2_with fail;rw [<- ae HW];refine (ae HI).mono ?_;rintro r w1 ⟨hr,bL⟩;obtain ⟨k1,e,b,rfl,kH⟩:=wP hr;have sV:=(bL.block _ (az (ae HR))).trans (ae HR);have BP:=(bL.block _ (az (ae HS))).trans (ae HS);have Db:=az sV;have bO:Below w1.heap.size w1 (w1.alloc (.cells #[.int .i64 e,.int .i64 b] 72)):=(ag _ _).alloc (af _) _;have xY:=hide ((bO.block _ Db).trans sV);have Gu:=hide ((bO.block _ (az BP)).trans BP);have HF:=hide (oM e b (w1.alloc (.cells #[.int .i64 e,.int .i64 b] 72)));have HG:=hide (ai w1 (.cells #[.int .i64 e,.int .i64 b] 72));have jg:=hide (((ae HB).trans (bL.mono (ae HB).size)).trans (bO.mono (aw (ae HB).size bL.size)));have jv:w.heap.size+1<(w1.alloc (.cells #[.int .i64 e,.int .i64 b] 72)).heap.size:=az (ae xY);clear hr bL sV BP bO;go_wp2_with fail;refine (ae HF).mono ?_;rintro r w3 ⟨rfl,eD⟩;have vM:=(eD.block _ jv).trans (ae xY);have xI:=(eD.block _ (by omega)).trans (ae Gu);have Hp:=(eD.block _ (by simp)).trans (ae HG);have eI:=hide ((ae jg).trans (eD.mono (ae jg).size));obtain ⟨p0,p1⟩:=ez vM;have y0:=aK vM 0;have y1:=aK vM 1;obtain ⟨s0,s1,s2⟩:=kG xI;obtain ⟨g0,g1⟩:=ez Hp;clear eD vM xI Hp;rcases kH with ⟨he,hb,hk⟩|⟨he,hk⟩
 . subst he
   subst hb;have hd:decide ((0:Nat)≠0)=false:=rfl;rw [hd];by_cases hw:k1=0
   . have xJ:=hide (show zo (.returned (.tuple #[.int .i64 (0:Nat),.agg #[.int .i64 0,.int .i64 0]])) (cV cols (.neg a x)) from by simp only [cV,hk,hw,if_true];rfl)
     have me:((k1:Int) != 0)=false:=by rw [hw];rfl
     clear hk hw;go_wp2_with fail
     (try go_region)
     all_goals
      (try go_wp2_with fail)
      (try simp only [Exit.inBlock,Exit.then])
      refine ay (v:=.tuple #[.int .i64 0,.agg #[.int .i64 0,.int .i64 0]]) (by simp [results,Tryz.results314,go_sem,p0,p1];try rfl) rfl ?_;exact ⟨ae xJ,by repeat (first|exact ae eI|refine aJ ?_|refine below_drewN ?_ _|refine cy ?_ (by simp) _|refine df ?_ (by simp;omega) _)⟩
   . have xJ:=hide (show zo (.returned (.tuple #[.int .i64 (0:Nat),.agg #[.int .i64 (7:Nat),.int .i64 a]])) (cV cols (.neg a x)) from by simp only [cV,hk,hw,if_false];exact ⟨0,rfl⟩)
     have me:((k1:Int) != 0)=true:=by rw [gy];omega
     clear hk hw;go_wp2_with fail
     (try go_region)
     all_goals
      (try go_wp2_with fail)
      (try simp only [Exit.inBlock,Exit.then])
      refine ay (v:=.tuple #[.int .i64 0,.agg #[.int .i64 7,.int .i64 a]]) (by simp [results,Tryz.results314,go_sem,p0,p1];try rfl) rfl ?_;exact ⟨ae xJ,by repeat (first|exact ae eI|refine aJ ?_|refine below_drewN ?_ _|refine cy ?_ (by simp) _|refine df ?_ (by simp;omega) _)⟩
 . have hd:decide (e≠0)=true:=by simpa using he
   have xJ:=hide (show zo (.returned (.tuple #[.int .i64 (0:Nat),.agg #[.int .i64 e,.int .i64 b]])) (cV cols (.neg a x)) from by simp only [cV,hk];exact ⟨0,rfl⟩);rw [hd];clear hk he;go_wp2_with fail
   (try go_region)
   all_goals
    (try go_wp2_with fail)
    (try simp only [Exit.inBlock,Exit.then])
    refine ay (v:=.tuple #[.int .i64 0,.agg #[.int .i64 e,.int .i64 b]]) (by simp [results,Tryz.results314,go_sem,p0,p1];try rfl) rfl ?_;exact ⟨ae xJ,by repeat (first|exact ae eI|refine aJ ?_|refine below_drewN ?_ _|refine cy ?_ (by simp) _|refine df ?_ (by simp;omega) _)⟩
theorem aeh {cols:List cU}{cv:Value}{a:Nat}{x:Ex}(ih:Fx cols cv x):Fx cols cv (.not a x):=by
 intro w hc;obtain ⟨te,jW,hm,U1⟩:=uP x;obtain ⟨W,hW⟩:∃W,W=(w.alloc (.cells #[.int .i64 14,.int .i64 a,.iface te (uh x)] 329)).alloc (.cells #[.int .i64 0,.int .i64 0] 72):=⟨_,rfl⟩;have hb:Below w.heap.size w W:=by rw [hW];exact ((ag _ _).alloc (af _) _).alloc (by simp) _
 have hR:W.heap[w.heap.size+1]?=some (.cells #[.int .i64 0,.int .i64 0] 72 (0,0)):=by rw [hW];have:=ai (w.alloc (.cells #[.int .i64 14,.int .i64 a,.iface te (uh x)] 329)) (.cells #[.int .i64 0,.int .i64 0] 72);simpa using this
 have hS:W.heap[w.heap.size]?=some (.cells #[.int .i64 14,.int .i64 a,.iface te (uh x)] 329 (0,0)):=by rw [hW];exact (bA _ _ _ (by simp)).trans (ai w (.cells #[.int .i64 14,.int .i64 a,.iface te (uh x)] 329))
 have HI:=hide (ih W (hc.below hb (af _)));have HC:=hide (hc.below hb (af _));have HB:=hide hb;have HR:=hide hR;have HS:=hide hS;have HW:=hide hW;obtain ⟨va,cJ,hv⟩:=hc.slice;subst hv;show Calls Tryz.prog 314 #[.agg #[.int .i64 14,.int .i64 a,qL x],_] w _;clear hc hb hR hW hS;rw [jW];go_enter Tryz.func314,Tryz.ntmps314;go_wp2_with fail;rw [<- ae HW];refine (ae HI).mono ?_;rintro r w1 ⟨hr,bL⟩;obtain ⟨k1,e,b,rfl,kH⟩:=wP hr;have sV:=(bL.block _ (az (ae HR))).trans (ae HR);have BP:=(bL.block _ (az (ae HS))).trans (ae HS);have Db:=az sV;have bO:Below w1.heap.size w1 (w1.alloc (.cells #[.int .i64 e,.int .i64 b] 72)):=(ag _ _).alloc (af _) _;have xY:=hide ((bO.block _ Db).trans sV);have Gu:=hide ((bO.block _ (az BP)).trans BP);have HF:=hide (oM e b (w1.alloc (.cells #[.int .i64 e,.int .i64 b] 72)));have HG:=hide (ai w1 (.cells #[.int .i64 e,.int .i64 b] 72));have jg:=hide (((ae HB).trans (bL.mono (ae HB).size)).trans (bO.mono (aw (ae HB).size bL.size)));have jv:w.heap.size+1<(w1.alloc (.cells #[.int .i64 e,.int .i64 b] 72)).heap.size:=az (ae xY);clear hr bL sV BP bO;go_wp2_with fail;refine (ae HF).mono ?_;rintro r w3 ⟨rfl,eD⟩;have vM:=(eD.block _ jv).trans (ae xY);have xI:=(eD.block _ (by omega)).trans (ae Gu);have Hp:=(eD.block _ (by simp)).trans (ae HG);have eI:=hide ((ae jg).trans (eD.mono (ae jg).size));obtain ⟨p0,p1⟩:=ez vM;have y0:=aK vM 0;have y1:=aK vM 1;obtain ⟨s0,s1,s2⟩:=kG xI;obtain ⟨g0,g1⟩:=ez Hp;clear eD vM xI Hp;rcases kH with ⟨he,hb,hk⟩|⟨he,hk⟩
 . subst he
   subst hb;have hd:decide ((0:Nat)≠0)=false:=rfl;rw [hd];by_cases hw:k1=2
   . have xJ:=hide (show zo (.returned (.tuple #[.int .i64 (2:Nat),.agg #[.int .i64 0,.int .i64 0]])) (cV cols (.not a x)) from by simp only [cV,hk,hw,if_true];rfl)
     have me:((k1:Int) != 2)=false:=by rw [hw];rfl
     clear hk hw;go_wp2_with fail
     (try go_region)
     all_goals
      (try go_wp2_with fail)
      (try simp only [Exit.inBlock,Exit.then])
      refine ay (v:=.tuple #[.int .i64 2,.agg #[.int .i64 0,.int .i64 0]]) (by simp [results,Tryz.results314,go_sem,p0,p1];try rfl) rfl ?_;exact ⟨ae xJ,by repeat (first|exact ae eI|refine aJ ?_|refine below_drewN ?_ _|refine cy ?_ (by simp) _|refine df ?_ (by simp;omega) _)⟩
   . have xJ:=hide (show zo (.returned (.tuple #[.int .i64 (0:Nat),.agg #[.int .i64 (7:Nat),.int .i64 a]])) (cV cols (.not a x)) from by simp only [cV,hk,hw,if_false];exact ⟨0,rfl⟩)
     have me:((k1:Int) != 2)=true:=by rw [gy];omega
     clear hk hw;go_wp2_with fail
     (try go_region)
     all_goals
      (try go_wp2_with fail)
      (try simp only [Exit.inBlock,Exit.then])
      refine ay (v:=.tuple #[.int .i64 0,.agg #[.int .i64 7,.int .i64 a]]) (by simp [results,Tryz.results314,go_sem,p0,p1];try rfl) rfl ?_;exact ⟨ae xJ,by repeat (first|exact ae eI|refine aJ ?_|refine below_drewN ?_ _|refine cy ?_ (by simp) _|refine df ?_ (by simp;omega) _)⟩
 . have hd:decide (e≠0)=true:=by simpa using he
   have xJ:=hide (show zo (.returned (.tuple #[.int .i64 (0:Nat),.agg #[.int .i64 e,.int .i64 b]])) (cV cols (.not a x)) from by simp only [cV,hk];exact ⟨0,rfl⟩);rw [hd];clear hk he;go_wp2_with fail
   (try go_region)
   all_goals
    (try go_wp2_with fail)
    (try simp only [Exit.inBlock,Exit.then])
    refine ay (v:=.tuple #[.int .i64 0,.agg #[.int .i64 e,.int .i64 b]]) (by simp [results,Tryz.results314,go_sem,p0,p1];try rfl) rfl ?_;exact ⟨ae xJ,by repeat (first|exact ae eI|refine aJ ?_|refine below_drewN ?_ _|refine cy ?_ (by simp) _|refine df ?_ (by simp;omega) _)⟩
def kdK (o:Nat):Nat:=if o<=4 then 0 else 2
def kdT (o l r:Nat):Bool:=if o<=4 then decide (l=0/\r=0) else if 11<=o then decide (l=2/\r=2) else decide (l=r)
theorem aao:∀op∈qq,ql op=decide (fq op<=4)/\mG op=decide (5<=fq op/\fq op<=10)/\fq op<=12:=by decide
theorem WA (l k:Nat):((l:Int)==(k:Nat))=decide (l=k):=by
 by_cases h:l=k
 . simp [h]
 . rw [aI h,aj];omega
theorem aej (o l r:Nat)(ho:o<=12)(w:World):Calls Tryz.prog 312 #[.int .i64 o,.int .i64 l,.int .i64 r] w λe w'=>e=.returned (.tuple #[.int .i64 (kdK o),.bool (kdT o l r)])/\Below w.heap.size w w':=by
 by_cases CG:o<=4
 . have h4:o=0\/o=1\/o=2\/o=3\/o=4:=by omega
   rw [show kdT o l r=decide (l=0/\r=0) from aH CG,show kdK o=0 from aH CG];rcases h4 with rfl|rfl|rfl|rfl|rfl<;>rcases nt (l=0) with h0|h0<;>rcases nt (r=0) with h1|h1<;>(
    have b0:((l:Int)==(0:Nat))=decide (l=0):=WA _ _
    (first|rw [bu h0] at b0|rw [aI h0] at b0)
    have b1:((r:Int)==(0:Nat))=decide (r=0):=WA _ _
    (first|rw [bu h1] at b1|rw [aI h1] at b1)
    go_enter Tryz.func312,Tryz.ntmps312;go_wp2_with fail
    (try go_region)
    all_goals
     (try go_wp2_with fail)
     (try simp only [Exit.inBlock,Exit.then])
     refine ay (v:=.tuple #[.int .i64 0,.bool (decide (l=0/\r=0))]) (by simp [results,Tryz.results312,go_sem,h0,h1];try first|omega|rfl) rfl ?_;exact ⟨rfl,by repeat (first|exact ag _ _|refine aJ ?_)⟩)
 . by_cases ah3:11<=o
   . have Gy:o=11\/o=12:=by omega
     rw [show kdT o l r=decide (l=2/\r=2) from (aA CG).trans (aH ah3),show kdK o=2 from aA CG];rcases Gy with rfl|rfl<;>rcases nt (l=2) with h0|h0<;>rcases nt (r=2) with h1|h1<;>(
      have b0:((l:Int)==(2:Nat))=decide (l=2):=WA _ _
      (first|rw [bu h0] at b0|rw [aI h0] at b0)
      have b1:((r:Int)==(2:Nat))=decide (r=2):=WA _ _
      (first|rw [bu h1] at b1|rw [aI h1] at b1)
      go_enter Tryz.func312,Tryz.ntmps312;go_wp2_with fail
      (try go_region)
      all_goals
       (try go_wp2_with fail)
       (try simp only [Exit.inBlock,Exit.then])
       refine ay (v:=.tuple #[.int .i64 2,.bool (decide (l=2/\r=2))]) (by simp [results,Tryz.results312,go_sem,h0,h1];try first|omega|rfl) rfl ?_;exact ⟨rfl,by repeat (first|exact ag _ _|refine aJ ?_)⟩)
   . skip
     have e0:((o:Int)==0)=false:=by rw [aj];omega
     have e1:((o:Int)==1)=false:=by rw [aj];omega
     have e2:((o:Int)==2)=false:=by rw [aj];omega
     have e3:((o:Int)==3)=false:=by rw [aj];omega
     have e4:((o:Int)==4)=false:=by rw [aj];omega
     have e11:((o:Int)==11)=false:=by rw [aj];omega
     have e12:((o:Int)==12)=false:=by rw [aj];omega
     rw [show kdT o l r=decide (l=r) from (aA CG).trans (aA ah3),show kdK o=2 from aA CG];rcases nt (l=r) with h0|h0<;>(
      have b0:((l:Int)==(r:Nat))=decide (l=r):=WA _ _
      (first|rw [bu h0] at b0|rw [aI h0] at b0)
      go_enter Tryz.func312,Tryz.ntmps312;go_wp2_with fail
      (try go_region)
      all_goals
       (try go_wp2_with fail)
       (try simp only [Exit.inBlock,Exit.then])
       refine ay (v:=.tuple #[.int .i64 2,.bool (decide (l=r))]) (by simp [results,Tryz.results312,go_sem,h0];try first|omega|rfl) rfl ?_;exact ⟨rfl,by repeat (first|exact ag _ _|refine aJ ?_)⟩)
theorem aek {cols:List cU}{cv:Value}{a:Nat}{op:ByteArray}{x y:Ex}(nx:op∈qq)(Ru:Fx cols cv x)(Rv:Fx cols cv y):Fx cols cv (.two op a x y):=by
 intro w hc;obtain ⟨tx,hx,hmx,hcx⟩:=uP x;obtain ⟨ty,hy,hmy,hcy⟩:=uP y;obtain ⟨on1,on2,on3⟩:=aao op nx;obtain ⟨W,hW⟩:∃W,W=(w.alloc (.cells #[.int .i64 (fq op),.int .i64 a,.iface tx (uh x),.iface ty (uh y)] 311)).alloc (.cells #[.int .i64 0,.int .i64 0] 72):=⟨_,rfl⟩;have hb:Below w.heap.size w W:=by rw [hW];exact ((ag _ _).alloc (af _) _).alloc (by simp) _
 have hR:W.heap[w.heap.size+1]?=some (.cells #[.int .i64 0,.int .i64 0] 72 (0,0)):=by rw [hW];have:=ai (w.alloc (.cells #[.int .i64 (fq op),.int .i64 a,.iface tx (uh x),.iface ty (uh y)] 311)) (.cells #[.int .i64 0,.int .i64 0] 72);simpa using this
 have hS:W.heap[w.heap.size]?=some (.cells #[.int .i64 (fq op),.int .i64 a,.iface tx (uh x),.iface ty (uh y)] 311 (0,0)):=by rw [hW];exact (bA _ _ _ (by simp)).trans (ai w (.cells #[.int .i64 (fq op),.int .i64 a,.iface tx (uh x),.iface ty (uh y)] 311))
 have HI:=hide (Ru W (hc.below hb (af _)));have HC:=hide (hc.below hb (af _));have HB:=hide hb;have HR:=hide hR;have HS:=hide hS;have HW:=hide hW;obtain ⟨va,cJ,hv⟩:=hc.slice;subst hv;show Calls Tryz.prog 311 #[.agg #[.int .i64 (fq op),.int .i64 a,qL x,qL y],_] w _;clear hc hb hR hW hS;have HK:=hide (λl r=>aej (fq op) l r on3);have anw:=hide (λ(k j:Nat) (h1:cV cols x=.inl k) (h2:cV cols y=.inl j)=>(show cV cols (.two op a x y)=if kdT (fq op) k j then .inl (kdK (fq op)) else .inr (7,a) from by
  simp only [cV,h1,h2,on1,on2];unfold kdT kdK;by_cases h4:fq op<=4
  . simp only [h4,decide_true,if_true]
    by_cases hk:k=0<;>by_cases hj:j=0<;>simp [hk,hj]<;>omega
  . by_cases Gy:11<=fq op
    . have:¬(5<=fq op/\fq op<=10):=by omega
      simp only [h4,Gy,this,decide_false,if_true];by_cases hk:k=2<;>by_cases hj:j=2<;>simp [hk,hj]<;>omega
    . have:5<=fq op/\fq op<=10:=by omega
      simp only [h4,Gy,this,decide_false];by_cases hk:k=j<;>simp [hk]))
 rw [hx,hy];clear on1 on2;go_enter Tryz.func311,Tryz.ntmps311;go_wp2_with fail;rw [<- ae HW];refine (ae HI).mono ?_;rintro r w1 ⟨hr,bL⟩;obtain ⟨k1,e,b,rfl,kH⟩:=wP hr;have sV:=(bL.block _ (az (ae HR))).trans (ae HR);have BP:=(bL.block _ (az (ae HS))).trans (ae HS);have Db:=az sV;have bO:Below w1.heap.size w1 (w1.alloc (.cells #[.int .i64 e,.int .i64 b] 72)):=(ag _ _).alloc (af _) _;have xY:=hide ((bO.block _ Db).trans sV);have Gu:=hide ((bO.block _ (az BP)).trans BP);have HF:=hide (oM e b (w1.alloc (.cells #[.int .i64 e,.int .i64 b] 72)));have HG:=hide (ai w1 (.cells #[.int .i64 e,.int .i64 b] 72));have jg:=hide (((ae HB).trans (bL.mono (ae HB).size)).trans (bO.mono (aw (ae HB).size bL.size)));have o8:=hide (((ae HC).below bL (af _)).below bO (af _));have jv:w.heap.size+1<(w1.alloc (.cells #[.int .i64 e,.int .i64 b] 72)).heap.size:=az (ae xY);clear hr bL sV BP bO;go_wp2_with fail;refine (ae HF).mono ?_;rintro r w3 ⟨rfl,eD⟩;have vM:=(eD.block _ jv).trans (ae xY);have xI:=(eD.block _ (by omega)).trans (ae Gu);have Hp:=(eD.block _ (by simp)).trans (ae HG);have eI:=hide ((ae jg).trans (eD.mono (ae jg).size));obtain ⟨p0,p1⟩:=ez vM;have y0:=aK vM 0;have y1:=aK vM 1;obtain ⟨s0,s1,s2,s3⟩:=bD xI;obtain ⟨g0,g1⟩:=ez Hp;have UM:=hide vM;have HS3:=hide xI;have HY:=hide (Rv w3 ((ae o8).below eD (af _)));clear eD vM xI;rcases kH with ⟨he,hb,hk⟩|⟨he,hk⟩
 . subst he
   subst hb;have hd:decide ((0:Nat)≠0)=false:=rfl;rw [hd];have vH:=hide hk;clear hk;go_wp2_with fail;refine (ae HY).mono ?_;rintro r w4 ⟨hr,me⟩;obtain ⟨k2,e,b,rfl,kH⟩:=wP hr;have hl3:=az Hp;have hR4:=(me.block _ (az (ae UM))).trans (ae UM);have hS4:=(me.block _ (az (ae HS3))).trans (ae HS3);have Kx:=(me.block _ hl3).trans Hp;have DP:=hide ((ae eI).trans (me.mono (ae eI).size));have ah4:w.heap.size+1≠w1.heap.size:=by omega
   have Za:w.heap.size≠w1.heap.size:=by omega
   obtain ⟨W5,DX⟩:∃W5,W5=(w4.setCell ⟨w1.heap.size,0,none⟩ (.int .i64 e)).setCell ⟨w1.heap.size,1,none⟩ (.int .i64 b):=⟨_,rfl⟩;have vz:Below w.heap.size w W5:=by rw [DX];exact ((ae DP).setCell (p:=⟨w1.heap.size,0,none⟩) (by simp;omega) _).setCell (p:=⟨w1.heap.size,1,none⟩) (by simp;omega) _
   have Zo:=hide (show W5.heap[w.heap.size+1]?=some (.cells #[.int .i64 0,.int .i64 0] 72 (0,0)) from by rw [DX];exact (aD _ _ _ _ ah4).trans ((aD _ _ _ _ ah4).trans hR4));have HS5:=hide (show W5.heap[w.heap.size]?=some (.cells #[.int .i64 (fq op),.int .i64 a,.iface tx (uh x),.iface ty (uh y)] 311 (0,0)) from by rw [DX];exact (aD _ _ _ _ Za).trans ((aD _ _ _ _ Za).trans hS4));have Zp:=hide (show W5.heap[w1.heap.size]?=some (.cells #[.int .i64 e,.int .i64 b] 72 (0,0)) from by rw [DX];exact aO _ _ 1 _ _ _ (aO _ _ 0 _ _ _ Kx));have YQ:=hide (oM e b W5);have vR:=hide vz;have YR:=hide DX;clear g0 g1 p0 p1 y0 y1 s0 s1 s2 s3;obtain ⟨g0,g1⟩:=ez Kx;have f0:=aK Kx 0;have f1:=aK Kx 1;clear hr me hR4 hS4 Kx DX vz Hp;go_wp2_with fail;rw [<- ae YR];refine (ae YQ).mono ?_;rintro r w6 ⟨rfl,Gz⟩;have hR6:=(Gz.block _ (az (ae Zo))).trans (ae Zo);have YS:=(Gz.block _ (az (ae HS5))).trans (ae HS5);have U2:=(Gz.block _ (az (ae Zp))).trans (ae Zp);have vS:=hide ((ae vR).trans (Gz.mono (ae vR).size));clear g0 g1 f0 f1;obtain ⟨p0,p1⟩:=ez hR6;have y0:=aK hR6 0;have y1:=aK hR6 1;obtain ⟨s0,s1,s2,s3⟩:=bD YS;obtain ⟨g0,g1⟩:=ez U2;have HR6:=hide hR6;have HS6:=hide YS;clear Gz hR6 YS U2;rcases kH with ⟨he,hb,hk⟩|⟨he,hk⟩
   . subst he
     subst hb;have hd:decide ((0:Nat)≠0)=false:=rfl;rw [hd];have Ky:=ae anw k1 k2 (ae vH) hk;clear hk;go_wp2_with fail;refine (ae HK _ _ _).mono ?_;rintro r w7 ⟨rfl,Pw⟩;have hR7:=(Pw.block _ (az (ae HR6))).trans (ae HR6);have hS7:=(Pw.block _ (az (ae HS6))).trans (ae HS6);have Rw:=hide ((ae vS).trans (Pw.mono (ae vS).size));clear p0 p1 y0 y1 s0 s1 s2 s3 g0 g1;obtain ⟨p0,p1⟩:=ez hR7;have y0:=aK hR7 0;have y1:=aK hR7 1;obtain ⟨s0,s1,s2,s3⟩:=bD hS7;clear Pw hR7 hS7
     cases ht:kdT (fq op) k1 k2 with
     |true=>
       have xJ:=hide (show zo (.returned (.tuple #[.int .i64 (kdK (fq op)),.agg #[.int .i64 0,.int .i64 0]])) (cV cols (.two op a x y)) from by rw [Ky,ht];rfl);clear Ky ht;go_wp2_with fail
       (try go_region)
       all_goals
        (try go_wp2_with fail)
        (try simp only [Exit.inBlock,Exit.then])
        refine ay (v:=.tuple #[.int .i64 (kdK (fq op)),.agg #[.int .i64 0,.int .i64 0]]) (by simp [results,Tryz.results311,go_sem,p0,p1];try rfl) rfl ?_;exact ⟨ae xJ,by repeat (first|exact ae Rw|refine aJ ?_|refine below_drewN ?_ _|refine cy ?_ (by simp) _|refine df ?_ (by simp;omega) _)⟩
     |false=>
       have xJ:=hide (show zo (.returned (.tuple #[.int .i64 (0:Nat),.agg #[.int .i64 (7:Nat),.int .i64 a]])) (cV cols (.two op a x y)) from by rw [Ky,ht];exact ⟨0,rfl⟩);clear Ky ht;go_wp2_with fail
       (try go_region)
       all_goals
        (try go_wp2_with fail)
        (try simp only [Exit.inBlock,Exit.then])
        refine ay (v:=.tuple #[.int .i64 0,.agg #[.int .i64 7,.int .i64 a]]) (by simp [results,Tryz.results311,go_sem,p0,p1];try rfl) rfl ?_;exact ⟨ae xJ,by repeat (first|exact ae Rw|refine aJ ?_|refine below_drewN ?_ _|refine cy ?_ (by simp) _|refine df ?_ (by simp;omega) _)⟩
   . have hd:decide (e≠0)=true:=by simpa using he
     have xJ:=hide (show zo (.returned (.tuple #[.int .i64 (0:Nat),.agg #[.int .i64 e,.int .i64 b]])) (cV cols (.two op a x y)) from by simp only [cV,ae vH,hk];exact ⟨0,rfl⟩);rw [hd];clear hk he;go_wp2_with fail
     (try go_region)
     all_goals
      (try go_wp2_with fail)
      (try simp only [Exit.inBlock,Exit.then])
      refine ay (v:=.tuple #[.int .i64 0,.agg #[.int .i64 e,.int .i64 b]]) (by simp [results,Tryz.results311,go_sem,p0,p1];try rfl) rfl ?_;exact ⟨ae xJ,by repeat (first|exact ae vS|refine aJ ?_|refine below_drewN ?_ _|refine cy ?_ (by simp) _|refine df ?_ (by simp;omega) _)⟩
 . have hd:decide (e≠0)=true:=by simpa using he
   have xJ:=hide (show zo (.returned (.tuple #[.int .i64 (0:Nat),.agg #[.int .i64 e,.int .i64 b]])) (cV cols (.two op a x y)) from by simp only [cV,hk];exact ⟨0,rfl⟩);rw [hd];clear hk he;go_wp2_with fail
   (try go_region)
   all_goals
    (try go_wp2_with fail)
    (try simp only [Exit.inBlock,Exit.then])
    refine ay (v:=.tuple #[.int .i64 0,.agg #[.int .i64 e,.int .i64 b]]) (by simp [results,Tryz.results311,go_sem,p0,p1];try rfl) rfl ?_;exact ⟨ae xJ,by repeat (first|exact ae eI|refine aJ ?_|refine below_drewN ?_ _|refine cy ?_ (by simp) _|refine df ?_ (by simp;omega) _)⟩
theorem ael {cols:List cU}{cv:Value}(hl:cols.length<=100000):∀(e:Ex),vO e->Fx cols cv e:=by
 intro e
 induction e with
 |num n=>exact λ_ w _=>Kw 0 n ⟨#[]⟩ cv w
 |str s=>exact λ_ w _=>Kw 1 0 s cv w
 |bool b=>exact λ_ w _=>Kw 2 (if b then 1 else 0) ⟨#[]⟩ cv w
 |junk=>exact λ_ w _=>Kw 0 0 ⟨#[]⟩ cv w
 |col s a=>exact λ_=>aef cols cv hl s a
 |neg a x ih=>exact λh=>aeg (ih h)
 |not a x ih=>exact λh=>aeh (ih h)
 |lZ no a x ih=>exact λh=>aan (ih h)
 |two op a x y Ru Rv=>exact λh=>aek h.1 (Ru h.2.1) (Rv h.2.2)
def yf (m:Mode):qD×Mode:=
 if aB m.tk=17 then (⟨m.place,0,false,-(dt m.next.tk:Int),⟨#[]⟩⟩,if aB m.next.tk=3 then m.next.next else m.next.wrong 2)
 else if aB m.tk=39 then (⟨m.place,0,true,0,⟨#[]⟩⟩,m.next)
 else (⟨m.place,(fE m.tk).1,false,(fE m.tk).2.1,(fE m.tk).2.2.1⟩,if (fE m.tk).2.2.2 then m.next else m.wrong 2)
def r9 (v:qD):Value:=.agg #[.int .i64 v.pl,.int .i64 v.kind,.bool v.null,.int .i64 v.n,.string v.s]
theorem aax {k:Tk}(h:k.wf):(dt k:Int)<=9223372036854775807:=by
 cases k with
 |num n=>exact Int.ofNat_le.mpr h
 |_=>exact (by decide:((0:Nat):Int)<=9223372036854775807)
theorem TB (a b:Int)(s:ByteArray)(d:Int)(w:World):(Instr.field 102 (.agg #[.int .i64 a,.int .i64 b,.string s,.int .i64 d]) 3).run Tryz.prog w=.ok (.int .i64 d) w:=by kernel_rfl
theorem pZ {w1:World}{r:Nat}{a b c d e:Value}{t:TypeId}(h:w1.heap[r]?=some (.cells #[a,b,c,d,e] t (0,0))) :
 w1.cell? ⟨r,0,none⟩=some a/\w1.cell? ⟨r,1,none⟩=some b/\w1.cell? ⟨r,2,none⟩=some c/\w1.cell? ⟨r,3,none⟩=some d/\w1.cell? ⟨r,4,none⟩=some e:=by
 simp [World.cell?,h]
theorem TC {w1:World}{r:Nat}{a b c d e:Value}{t:TypeId}(h:w1.heap[r]?=some (.cells #[a,b,c,d,e] t (0,0)))(a' b' c' d' e':Value) :
 (((((w1.setCell ⟨r,0,none⟩ a').setCell ⟨r,1,none⟩ b').setCell ⟨r,2,none⟩ c').setCell ⟨r,3,none⟩ d').setCell ⟨r,4,none⟩ e').heap[r]?=some (.cells #[a',b',c',d',e'] t (0,0)):=
 aO _ _ 4 _ _ _ (aO _ _ 3 _ _ _ (aO _ _ 2 _ _ _ (aO _ _ 1 _ _ _ (aO _ _ 0 _ _ _ h))))
theorem Ht {w:World}{p:Nat}{x:cB}{m:Mode}{l:List Tok}(h:cO w p x m l)(Gx:aB m.tk=39):Calls Tryz.prog 106 #[.pointer (some ⟨p,0,none⟩)] w λr w'=>
 r=.returned (r9 (yf m).1)/\bI w w' p x (yf m).2:=by
 have hr:yf m=(⟨m.place,0,true,0,⟨#[]⟩⟩,m.next):=(aA (by omega)).trans (aH Gx);rw [hr];have e17:((aB m.tk:Int)==17)=false:=by rw [aj];omega
 have e39:((aB m.tk:Int)==39)=true:=by rw [bz];omega
 have HA:=hide (mP.start h (.cells #[.int .i64 0,.int .i64 0,.bool false,.int .i64 0,.string ⟨#[]⟩] 234));have eB:=h.bN.lt;clear h Gx;go_enter Tryz.func106,Tryz.ntmps106;go_wp2_with fail;refine (gJ (ae HA).bN).mono ?_;rintro r w1 ⟨rfl,S⟩;obtain ⟨x1,l1,A1⟩:=(ae HA).call S;have fN:w1.heap[w.heap.size]?=some (.cells #[.int .i64 0,.int .i64 0,.bool false,.int .i64 0,.string ⟨#[]⟩] 234 (0,0)):=mP.block S (ai w _) (by omega);have L7:=hide fN;have qp:=hide A1;have BI:=A1.big;obtain ⟨q0,q1,q2,q3,q4⟩:=pZ fN;have z0:=aK fN 0;have z1:=aK fN 1;have z2:=aK fN 2;have z3:=aK fN 3;have z4:=aK fN 4;clear S A1 fN;unfold iZ;go_wp2_with fail;have jZ:=(bA (((((w1.setCell ⟨w.heap.size,0,none⟩ (.int .i64 m.place)).setCell ⟨w.heap.size,1,none⟩ (.int .i64 0)).setCell ⟨w.heap.size,2,none⟩ (.bool true)).setCell ⟨w.heap.size,3,none⟩ (.int .i64 0)).setCell ⟨w.heap.size,4,none⟩ (.string ⟨#[]⟩)) (.cells #[.int .i64 (aB m.tk),.int .i64 m.place,.string (bn m.tk),.int .i64 (dt m.tk)] 102) w.heap.size (by simpa [World.setCell] using BI)).trans (TC (ae L7) (.int .i64 m.place) (.int .i64 0) (.bool true) (.int .i64 0) (.string ⟨#[]⟩));have Mr:=(((((((ae qp).set 0 (.int .i64 m.place)).set 1 (.int .i64 0)).set 2 (.bool true)).set 3 (.int .i64 0)).set 4 (.string ⟨#[]⟩)).below ((ag _ _).alloc (af _) (.cells #[.int .i64 (aB m.tk),.int .i64 m.place,.string (bn m.tk),.int .i64 (dt m.tk)] 102))).step;generalize hWF:World.alloc (World.setCell _ _ _) _=WF at jZ Mr ⊢;obtain ⟨y0,y1,y2,y3,y4⟩:=pZ jZ
 (try simp only [Exit.inBlock,Exit.then])
 refine ay (v:=r9 ⟨m.place,0,true,0,⟨#[]⟩⟩) (by simp [results,Tryz.results106,go_sem,r9,y0,y1,y2,y3,y4];try rfl) rfl ?_;exact ⟨rfl,Mr⟩
theorem FK {w:World}{p:Nat}{x:cB}{m:Mode}{l:List Tok}(h:cO w p x m l)(KG:aB m.tk=17):Calls Tryz.prog 106 #[.pointer (some ⟨p,0,none⟩)] w λr w'=>
 r=.returned (r9 (yf m).1)/\bI w w' p x (yf m).2:=by
 have hr:yf m=(⟨m.place,0,false,-(dt m.next.tk:Int),⟨#[]⟩⟩,if aB m.next.tk=3 then m.next.next else m.next.wrong 2):=aH KG;obtain ⟨M,hM⟩:∃M,M=(if aB m.next.tk=3 then m.next.next else m.next.wrong 2):=⟨_,rfl⟩;rw [<- hM] at hr;rw [hr];have Jj:=λ(W:World) (y:cB) (ly:List Tok) (hy:cO W p y m.next ly)=>gK hy 3;rw [<- hM] at Jj;clear hr hM;have e17:((aB m.tk:Int)==17)=true:=by rw [bz];omega
 have Lr:=aax (Rq h);have uf:IntKind.i64.wrap (-(dt m.next.tk:Int))=-(dt m.next.tk:Int):=by rw [IntKind.wrap_i64];omega
 have HA:=hide (mP.start h (.cells #[.int .i64 0,.int .i64 0,.bool false,.int .i64 0,.string ⟨#[]⟩] 234));have eB:=h.bN.lt;clear h KG;go_enter Tryz.func106,Tryz.ntmps106;go_wp2_with fail;refine (gJ (ae HA).bN).mono ?_;rintro r w1 ⟨rfl,S⟩;obtain ⟨x1,l1,A1⟩:=(ae HA).call S;have fN:w1.heap[w.heap.size]?=some (.cells #[.int .i64 0,.int .i64 0,.bool false,.int .i64 0,.string ⟨#[]⟩] 234 (0,0)):=mP.block S (ai w _) (by omega);obtain ⟨W,hW⟩:∃W,W=w1.alloc (.cells #[.int .i64 (aB m.tk),.int .i64 m.place,.string (bn m.tk),.int .i64 (dt m.tk)] 102 (0,0)):=⟨_,rfl⟩;have bO:Below w1.heap.size w1 W.drew:=by rw [hW];exact aJ ((ag _ _).alloc (af _) _)
 have nS:W.drew.heap[w1.heap.size]?=some (.cells #[.int .i64 (aB m.tk),.int .i64 m.place,.string (bn m.tk),.int .i64 (dt m.tk)] 102 (0,0)):=by rw [hW];exact ai w1 _
 have L7:=hide ((bO.block w.heap.size A1.big).trans fN);have A2:=A1.below bO;have HM:=hide (Jj _ _ _ A2.bN);have rE:=hide A2;have BI:=A1.big;have QR:=A1.bN.bN.lt;obtain ⟨g0,g1,g2,g3⟩:=bD (show W.heap[w1.heap.size]?=_ from nS);have TD:=hide nS;have YH:=hide (show ∀w2,bI W.drew w2 p x1 M->w2.cell? ⟨w1.heap.size,1,none⟩=some (.int .i64 m.place)/\(w2.cell? ⟨w.heap.size,0,none⟩=some (.int .i64 0)/\w2.cell? ⟨w.heap.size,1,none⟩=some (.int .i64 0)/\w2.cell? ⟨w.heap.size,2,none⟩=some (.bool false)/\w2.cell? ⟨w.heap.size,3,none⟩=some (.int .i64 0)/\w2.cell? ⟨w.heap.size,4,none⟩=some (.string ⟨#[]⟩))/\(∀i,w2.frozen? ⟨w.heap.size,i,none⟩=false)/\(∀a b c d e,bI w (((((w2.setCell ⟨w.heap.size,0,none⟩ a).setCell ⟨w.heap.size,1,none⟩ b).setCell ⟨w.heap.size,2,none⟩ c).setCell ⟨w.heap.size,3,none⟩ d).setCell ⟨w.heap.size,4,none⟩ e) p x M) from λw2 S2=>by
  obtain ⟨x2,l2,A3⟩:=(ae rE).call S2;have Ft:=mP.block S2 (ae L7) (by omega);obtain ⟨u0,u1,u2,u3⟩:=bD (mP.block S2 (ae TD) (by omega));exact ⟨u1,pZ Ft,λi=>aK Ft i,λa b c d e=>(((((A3.set 0 a).set 1 b).set 2 c).set 3 d).set 4 e).step⟩)
 have iq:¬(w1.heap.size=w.heap.size):=by omega
 have hfn:∀w,(Instr.field 102 (.agg #[.int .i64 (aB m.next.tk),.int .i64 m.next.place,.string (bn m.next.tk),.int .i64 (dt m.next.tk)]) 3).run Tryz.prog w=.ok (.int .i64 (dt m.next.tk)) w:=λw=>TB _ _ _ _ w;have HW:=hide hW;clear S A1 fN bO nS hW A2;unfold iZ at HM ⊢;go_wp2_with fail;rw [<- ae HW];go_region_with (with_reducible refine ju (ae HM) ?_;rintro r w2 ⟨rfl,S2⟩;obtain ⟨u1,⟨q0,q1,q2,q3,q4⟩,hz,hE⟩:=ae YH w2 S2;have z0:=hz 0;have z1:=hz 1;have z2:=hz 2;have z3:=hz 3;have z4:=hz 4;have HE:=hide hE;have HQ:=hide (And.intro q0 (And.intro q1 (And.intro q2 (And.intro q3 q4))));clear S2 hz hE)
 all_goals
  (try go_wp2_with fail)
  (try simp only [Exit.inBlock,Exit.then])
  obtain ⟨q0,q1,q2,q3,q4⟩:=ae HQ;refine ay (v:=r9 ⟨m.place,0,false,-(dt m.next.tk:Int),⟨#[]⟩⟩) (by simp [results,Tryz.results106,go_sem,r9,q0,q1,q2,q3,q4];try rfl) rfl ?_;exact ⟨rfl,ae HE _ _ _ _ _⟩
theorem qM {w1:World}{r:Nat}{a b c:Value}{t:TypeId}(h:w1.heap[r]?=some (.cells #[a,b,c] t (0,0))) :
 w1.cell? ⟨r,0,none⟩=some a/\w1.cell? ⟨r,1,none⟩=some b/\w1.cell? ⟨r,2,none⟩=some c:=by
 simp [World.cell?,h]
theorem Hu {w:World}{p:Nat}{x:cB}{m:Mode}{l:List Tok}(h:cO w p x m l)(KG:¬aB m.tk=17)(Gx:¬aB m.tk=39)(ck cn:Nat)(cs:ByteArray)
 (hC:∀W,Calls Tryz.prog 132 #[iZ m.tk m.place] W λr w'=>r=.returned (.tuple #[.int .i64 ck,.agg #[.bool false,.int .i64 cn,.string cs],.bool false])/\Below W.heap.size W w'):Calls Tryz.prog 106 #[.pointer (some ⟨p,0,none⟩)] w λr w'=>
 r=.returned (r9 ⟨m.place,ck,false,cn,cs⟩)/\bI w w' p x (m.wrong 2):=by
 have e17:((aB m.tk:Int)==17)=false:=by rw [aj];omega
 have e39:((aB m.tk:Int)==39)=false:=by rw [aj];omega
 have HA:=hide (mP.start h (.cells #[.int .i64 0,.int .i64 0,.bool false,.int .i64 0,.string ⟨#[]⟩] 234));have eB:=h.bN.lt;clear h KG Gx;go_enter Tryz.func106,Tryz.ntmps106;go_wp2_with fail;refine (gJ (ae HA).bN).mono ?_;rintro r w1 ⟨rfl,S⟩;obtain ⟨x1,l1,A1⟩:=(ae HA).call S;have fN:w1.heap[w.heap.size]?=some (.cells #[.int .i64 0,.int .i64 0,.bool false,.int .i64 0,.string ⟨#[]⟩] 234 (0,0)):=mP.block S (ai w _) (by omega);have bO:Below w1.heap.size w1 (w1.alloc (.cells #[.int .i64 (aB m.tk),.int .i64 m.place,.string (bn m.tk),.int .i64 (dt m.tk)] 102)):=(ag _ _).alloc (af _) _;have L7:=hide ((bO.block w.heap.size A1.big).trans fN);have TD:=hide (ai w1 (.cells #[.int .i64 (aB m.tk),.int .i64 m.place,.string (bn m.tk),.int .i64 (dt m.tk)] 102));have rE:=hide (A1.below bO);have BI:=A1.big;have QR:=A1.bN.bN.lt;have HC:=hide (hC (w1.alloc (.cells #[.int .i64 (aB m.tk),.int .i64 m.place,.string (bn m.tk),.int .i64 (dt m.tk)] 102)));clear S A1 fN bO;unfold iZ at HC ⊢;go_wp2_with fail;refine (ae HC).mono ?_;rintro r w3 ⟨rfl,eD⟩;have Ft:=(eD.block w.heap.size (by simp;omega)).trans (ae L7);have Hv:=(eD.block w1.heap.size (by simp)).trans (ae TD);have A3:=(ae rE).below eD;have hs3:=eD.size;have hp3:=A3.bN.bN.lt;have PI:w1.heap.size<w3.heap.size:=fK Hv;have me:Below w3.heap.size w3 (w3.alloc (.cells #[.bool false,.int .i64 (cn:Nat),.string cs] 214)):=(ag _ _).alloc (af _) _;have zu:=(me.block w1.heap.size PI).trans Hv;have zn:=(me.block w.heap.size (by omega)).trans Ft;have WX:=ai w3 (.cells #[.bool false,.int .i64 (cn:Nat),.string cs] 214);obtain ⟨t0,t1,t2,t3⟩:=bD zu;have aay:=hide zu;have aij:=hide zn;have PJ:=hide WX;have CO:=hide (A3.below me);clear eD Ft Hv A3 me WX;clear zn zu;go_wp2_with fail;refine (mX (ae CO).bN m.tk m.place).mono ?_;rintro r w5 ⟨rfl,S5⟩;rw [pL] at S5;obtain ⟨x5,l5,A5⟩:=(ae CO).call S5;have aik:=mP.block S5 (ae aay) (by omega);have PK:=mP.block S5 (ae aij) (by omega);have WY:=mP.block S5 (ae PJ) (by omega);obtain ⟨y0,y1,y2,y3⟩:=bD aik;obtain ⟨q0,q1,q2,q3,q4⟩:=pZ PK;obtain ⟨n0,n1,n2⟩:=qM WY;have z0:=aK PK 0;have z1:=aK PK 1;have z2:=aK PK 2;have z3:=aK PK 3;have z4:=aK PK 4;have HE:=hide (λa b c d e=>(((((A5.set 0 a).set 1 b).set 2 c).set 3 d).set 4 e).step);clear S5 A5 aik PK WY t0 t1 t2 t3;go_wp2_with fail
 (try simp only [Exit.inBlock,Exit.then])
 refine ay (v:=r9 ⟨m.place,ck,false,cn,cs⟩) (by simp [results,Tryz.results106,go_sem,r9,q0,q1,q2,q3,q4];try rfl) rfl ?_;exact ⟨rfl,ae HE _ _ _ _ _⟩
theorem FL {w:World}{p:Nat}{x:cB}{m:Mode}{l:List Tok}(h:cO w p x m l)(KG:¬aB m.tk=17)(Gx:¬aB m.tk=39)(ck cn:Nat)(cs:ByteArray)
 (hC:∀W,Calls Tryz.prog 132 #[iZ m.tk m.place] W λr w'=>r=.returned (.tuple #[.int .i64 ck,.agg #[.bool false,.int .i64 cn,.string cs],.bool true])/\Below W.heap.size W w'):Calls Tryz.prog 106 #[.pointer (some ⟨p,0,none⟩)] w λr w'=>
 r=.returned (r9 ⟨m.place,ck,false,cn,cs⟩)/\bI w w' p x m.next:=by
 have e17:((aB m.tk:Int)==17)=false:=by rw [aj];omega
 have e39:((aB m.tk:Int)==39)=false:=by rw [aj];omega
 have HA:=hide (mP.start h (.cells #[.int .i64 0,.int .i64 0,.bool false,.int .i64 0,.string ⟨#[]⟩] 234));have eB:=h.bN.lt;clear h KG Gx;go_enter Tryz.func106,Tryz.ntmps106;go_wp2_with fail;refine (gJ (ae HA).bN).mono ?_;rintro r w1 ⟨rfl,S⟩;obtain ⟨x1,l1,A1⟩:=(ae HA).call S;have fN:w1.heap[w.heap.size]?=some (.cells #[.int .i64 0,.int .i64 0,.bool false,.int .i64 0,.string ⟨#[]⟩] 234 (0,0)):=mP.block S (ai w _) (by omega);have bO:Below w1.heap.size w1 (w1.alloc (.cells #[.int .i64 (aB m.tk),.int .i64 m.place,.string (bn m.tk),.int .i64 (dt m.tk)] 102)):=(ag _ _).alloc (af _) _;have L7:=hide ((bO.block w.heap.size A1.big).trans fN);have TD:=hide (ai w1 (.cells #[.int .i64 (aB m.tk),.int .i64 m.place,.string (bn m.tk),.int .i64 (dt m.tk)] 102));have rE:=hide (A1.below bO);have BI:=A1.big;have QR:=A1.bN.bN.lt;have HC:=hide (hC (w1.alloc (.cells #[.int .i64 (aB m.tk),.int .i64 m.place,.string (bn m.tk),.int .i64 (dt m.tk)] 102)));clear S A1 fN bO;unfold iZ at HC ⊢;go_wp2_with fail;refine (ae HC).mono ?_;rintro r w3 ⟨rfl,eD⟩;have Ft:=(eD.block w.heap.size (by simp;omega)).trans (ae L7);have Hv:=(eD.block w1.heap.size (by simp)).trans (ae TD);have A3:=(ae rE).below eD;have hs3:=eD.size;have hp3:=A3.bN.bN.lt;have PI:w1.heap.size<w3.heap.size:=fK Hv;have me:Below w3.heap.size w3 (w3.alloc (.cells #[.bool false,.int .i64 (cn:Nat),.string cs] 214)):=(ag _ _).alloc (af _) _;have zu:=(me.block w1.heap.size PI).trans Hv;have zn:=(me.block w.heap.size (by omega)).trans Ft;have WX:=ai w3 (.cells #[.bool false,.int .i64 (cn:Nat),.string cs] 214);obtain ⟨t0,t1,t2,t3⟩:=bD zu;have aay:=hide zu;have aij:=hide zn;have PJ:=hide WX;have CO:=hide (A3.below me);clear eD Ft Hv A3 me WX;obtain ⟨q0,q1,q2,q3,q4⟩:=pZ zn;have z0:=aK zn 0;have z1:=aK zn 1;have z2:=aK zn 2;have z3:=aK zn 3;have z4:=aK zn 4;obtain ⟨n0,n1,n2⟩:=qM (ae PJ);have HE:=hide (λa b c d e=>((((((ae CO).set 0 a).set 1 b).set 2 c).set 3 d).set 4 e).step);clear zn zu;go_wp2_with fail
 (try simp only [Exit.inBlock,Exit.then])
 refine ay (v:=r9 ⟨m.place,ck,false,cn,cs⟩) (by simp [results,Tryz.results106,go_sem,r9,q0,q1,q2,q3,q4];try rfl) rfl ?_;exact ⟨rfl,ae HE _ _ _ _ _⟩
theorem FM {w:World}{p:Nat}{x:cB}{m:Mode}{l:List Tok}(h:cO w p x m l)(KG:¬aB m.tk=17)(Gx:¬aB m.tk=39):Calls Tryz.prog 106 #[.pointer (some ⟨p,0,none⟩)] w λr w'=>
 r=.returned (r9 (yf m).1)/\bI w w' p x (yf m).2:=by
 have hr:yf m=(⟨m.place,(fE m.tk).1,false,(fE m.tk).2.1,(fE m.tk).2.2.1⟩,if (fE m.tk).2.2.2 then m.next else m.wrong 2):=(aA KG).trans (aA Gx);rw [hr];have hC:=Ja m.tk m.place;generalize fE m.tk=cR at hC ⊢;obtain ⟨ck,cn,cs,cf⟩:=cR
 cases cf
 . exact Hu h KG Gx ck cn cs hC
 . exact FL h KG Gx ck cn cs hC
def tP (v:qD):qD:={ v with kind:=if v.null then 0 else v.kind }
def mh (m:Mode):qD×Mode:=(tP (gw m).1,(gw m).2)
theorem TE {α β:Type}(f:α->β)(one:Mode->α×Mode)(m:Mode):cC (λm=>(f (one m).1,(one m).2)) m=((cC one m).1.map f,(cC one m).2):=by
 have h:∀n l m,fm (λm=>(f (one m).1,(one m).2)) n (l.map f) m=((fm one n l m).1.map f,(fm one n l m).2):=by
  intro n
  induction n with
  |zero=>intro l m;rfl
  |succ n ih=>
    intro l m;unfold fm;by_cases hc:m.is kj=true
    . rw [aH hc,aH hc,<- ih]
      simp
    . rw [aA hc,aA hc]
 exact h _ [(one m).1] _
theorem PL (m:Mode):cC mh m=((cC gw m).1.map tP,(cC gw m).2):=TE tP gw m
theorem FN (m:Mode):(gw m).2.len<=m.len:=by
 unfold gw;split
 . split
   . exact aw bG bG
   . exact aw (mZ _ 2) bG
 . split
   . exact bG
   . exact bG
   . split
     . exact bG
     . split
       . exact bG
       . split
         . exact bG
         . exact mZ m 2
theorem FO (m:Mode):(mh m).2.len<=m.len:=FN m
theorem aeB {m:Mode}(hw:m.tk.wf):(yf m).2=(mh m).2/\((mh m).2.alive->(yf m).1=(mh m).1):=by
 have im:m.is qj=decide (aB m.tk=17):=iW (i:=12) hw rfl (by decide);have it:m.is yr=decide (aB m.tk=40):=eu (i:=19) hw rfl (by decide);have jf:m.is sH=decide (aB m.tk=41):=eu (i:=20) hw rfl (by decide);have jn:m.is q6=decide (aB m.tk=39):=eu (i:=18) hw rfl (by decide);unfold mh;by_cases KG:aB m.tk=17
 . have e1:yf m=(⟨m.place,0,false,-(dt m.next.tk:Int),⟨#[]⟩⟩,if aB m.next.tk=3 then m.next.next else m.next.wrong 2):=aH KG
   have e2:gw m=match m.next.tk with
    |.num n=>(⟨m.place,0,false,-(n:Int),ByteArray.empty⟩,m.next.next)
    |_=>(EL,m.next.wrong 2):=aH (by rw [im];simpa using KG)
   rw [e1,e2]
   cases hk:m.next.tk with
   |num n=>exact ⟨rfl,λ_=>rfl⟩
   |stop=>exact ⟨rfl,λh=>absurd h (cj _ 2)⟩
   |bad=>exact ⟨rfl,λh=>absurd h (cj _ 2)⟩
   |name t=>exact ⟨rfl,λh=>absurd h (cj _ 2)⟩
   |str t=>exact ⟨rfl,λh=>absurd h (cj _ 2)⟩
   |sign t=>exact ⟨aA (by simp only [aB];omega),λh=>absurd h (cj _ 2)⟩
   |word t=>exact ⟨aA (by simp only [aB];omega),λh=>absurd h (cj _ 2)⟩
 . have e1:yf m=if aB m.tk=39 then (⟨m.place,0,true,0,⟨#[]⟩⟩,m.next) else (⟨m.place,(fE m.tk).1,false,(fE m.tk).2.1,(fE m.tk).2.2.1⟩,if (fE m.tk).2.2.2 then m.next else m.wrong 2):=aA KG
   have e2:gw m=match m.tk with
    |.num n=>(⟨m.place,0,false,n,ByteArray.empty⟩,m.next)
    |.str s=>(⟨m.place,1,false,0,s⟩,m.next)
    |_=>
      if m.is yr then (⟨m.place,2,false,1,ByteArray.empty⟩,m.next)
      else if m.is sH then (⟨m.place,2,false,0,ByteArray.empty⟩,m.next)
      else if m.is q6 then (⟨m.place,-1,true,0,ByteArray.empty⟩,m.next)
      else (EL,m.wrong 2):=aA (by rw [im];simpa using KG)
   rw [e1,e2,it,jf,jn];clear e1 e2 it jf jn im KG
   cases hk:m.tk with
   |num n=>exact ⟨rfl,λ_=>rfl⟩
   |str t=>exact ⟨rfl,λ_=>rfl⟩
   |stop=>exact ⟨rfl,λh=>absurd h (cj _ 2)⟩
   |bad=>exact ⟨rfl,λh=>absurd h (cj _ 2)⟩
   |name t=>exact ⟨rfl,λh=>absurd h (cj _ 2)⟩
   |sign t=>
     rw [hk] at hw;have ht:t∈ei:=hw;have h1:sL ei t<16:=(ak.mp (Az ht)).1;have hc:fE (.sign t)=(0,0,⟨#[]⟩,false):=by
      have g3:¬aB (.sign t)=3:=by simp only [aB];omega
      have g4:¬aB (.sign t)=4:=by simp only [aB];omega
      have g40:¬aB (.sign t)=40:=by simp only [aB];omega
      have g41:¬aB (.sign t)=41:=by simp only [aB];omega
      unfold fE;rw [aA g3,aA g4,aA g40,aA g41]
     have g39:¬aB (.sign t)=39:=by simp only [aB];omega
     have g40:¬aB (.sign t)=40:=by simp only [aB];omega
     have g41:¬aB (.sign t)=41:=by simp only [aB];omega
     rw [aA g39,hc,aI g40,aI g41,aI g39];exact ⟨rfl,λh=>absurd h (cj _ 2)⟩
   |word t=>
     have g3:¬aB (.word t)=3:=by simp only [aB];omega
     have g4:¬aB (.word t)=4:=by simp only [aB];omega
     unfold fE;rw [aA g3,aA g4];by_cases CG:aB (.word t)=40
     . have g39:¬aB (.word t)=39:=by omega
       rw [aA g39,aH CG,bu CG];exact ⟨rfl,λ_=>rfl⟩
     . by_cases Pt:aB (.word t)=41
       . have g39:¬aB (.word t)=39:=by omega
         rw [aA g39,aA CG,aH Pt,aI CG,bu Pt];exact ⟨rfl,λ_=>rfl⟩
       . by_cases Gx:aB (.word t)=39
         . rw [aH Gx,aI CG,aI Pt,bu Gx]
           exact ⟨rfl,λ_=>rfl⟩
         . rw [aA Gx,aA CG,aA Pt,aI CG,aI Pt,aI Gx]
           exact ⟨rfl,λh=>absurd h (cj _ 2)⟩
theorem MW {w:World}{p:Nat}{x:cB}{m:Mode}{l:List Tok}(h:cO w p x m l)(_ho:dK w)(_hp:12<=p)(_hd:x.depth=0):Calls Tryz.prog 106 #[.pointer (some ⟨p,0,none⟩)] w λr w'=>
 ∃c:qD,r=.returned (.agg #[.int .i64 c.pl,.int .i64 c.kind,.bool c.null,.int .i64 c.n,.string c.s])/\bI w w' p x (mh m).2/\((mh m).2.alive->c=(mh m).1):=by
 have hv:=aeB h.xF;have key:Calls Tryz.prog 106 #[.pointer (some ⟨p,0,none⟩)] w λr w'=>r=.returned (r9 (yf m).1)/\bI w w' p x (yf m).2:=by
  by_cases KG:aB m.tk=17
  . exact FK h KG
  . by_cases Gx:aB m.tk=39
    . exact Ht h Gx
    . exact FM h KG Gx
 refine key.mono ?_;rintro r w' ⟨rfl,S⟩;rw [hv.1] at S;exact ⟨(yf m).1,rfl,S,hv.2⟩
def p8 (v:qD):List Value:=[.int .i64 v.pl,.int .i64 v.kind,.bool v.null,.int .i64 v.n,.string v.s]
def lk (l:List qD):List Value:=l.flatMap p8
theorem MX (l:List qD)(c:qD):lk (l++[c])=lk l++p8 c:=by simp [lk]
theorem aaz (c:qD):∀u∈p8 c,u.oneCell'=true:=by
 intro u hu;simp [p8] at hu;rcases hu with rfl|rfl|rfl|rfl|rfl<;>rfl
theorem Tryz.PN:(Tryz.prog.info? 234).map (λi=>(i.zero,i.size,i.bytes))=some (some (.agg #[.int .i64 0,.int .i64 0,.bool false,.int .i64 0,.string ByteArray.empty]),5,48):=by kernel_rfl
theorem Hw {w:World}{p:Nat}{x:cB}{m:Mode}{l:List Tok}(h:cO w p x m l)(ho:dK w)(hp:12<=p)(hdp:x.depth=0):Calls Tryz.prog 105 #[.pointer (some ⟨p,0,none⟩),.func (.func 106) #[.pointer (some ⟨p,0,none⟩)] #[]] w λr w'=>
 ∃v ls,r=.returned v/\bI w w' p x (cC mh m).2/\w'.ownsRow w.heap.size 234 5 v ls.length (lk ls)/\((cC mh m).2.alive->ls=(cC mh m).1):=by
 obtain ⟨i0,hi,jS,jD,jv⟩:=uK Tryz.PN;have eB:=h.bN.lt;have hm:=h.Pu;have HC:=hide (MW h ho hp hdp);have HO:=hide ho;clear h ho;go_enter Tryz.func105,Tryz.ntmps105;go_wp2_with fail;refine (ae HC).mono ?_;rintro r w1 ⟨c0,rfl,S,OJ⟩;have Ip:=FO m;obtain ⟨x1,l1,h1,sM,pj⟩:=S.ex;have bO:Below w1.heap.size w1 (w1.alloc (.cells #[.int .i64 c0.pl,.int .i64 c0.kind,.bool c0.null,.int .i64 c0.n,.string c0.s] 234)):=(ag _ _).alloc (af _) _;have Le:=S.keeps.size;have xG:fP w (w1.alloc (.cells #[.int .i64 c0.pl,.int .i64 c0.kind,.bool c0.null,.int .i64 c0.n,.string c0.s] 234)) p x x1 m (mh m).2 l1 234 5 (.slice (some ⟨w1.heap.size,0,none⟩) 1 1) 1 (lk [c0]):=
  ⟨h1.below bO,sM,pj,S.keeps.dz (aQ.cQ bO),⟨by simp [lk,p8],.inr ⟨w1.heap.size,1,#[.int .i64 c0.pl,.int .i64 c0.kind,.bool c0.null,.int .i64 c0.n,.string c0.s],rfl,Le,ai w1 _,by simp,by decide,by simp,by simp [lk,p8]⟩⟩,by omega,eB,λg hg e=>by
   simp [Value.ownBlock] at hg;have:=(h1.own.lt g e).2;omega⟩
 have Rp:=hide xG;have HE0:=hide OJ;clear S h1 sM pj bO xG OJ;go_wp2_with fail;go_loopw [5] (λv wr=>∃(x':cB) (m':Mode) (l':List Tok) (ls lp:List qD) (fuel:Nat),Hid (fP w wr p x x' m m' l' 234 5 v ls.length (lk ls))/\m'.len<=fuel/\Hid (fm mh fuel lp m'=cC mh m)/\Hid (m'.alive->ls=lp)) (λv _=>2000 - lenOf v)
 case atStart=>exact ⟨x1,_,l1,[c0],[(mh m).1],_,Rp,af _,hide rfl,hide (λha=>by rw [ae HE0 ha])⟩
 case round=>
  obtain ⟨x',m',l',ls,lp,fuel,HL,I7,HC,HE⟩:=hrel;have sS:=uN (ae HL).bN;by_cases hc:aB m'.tk=13
  . have ic:m'.is kj=true:=by rw [sS];simpa using hc
    obtain ⟨pJ,hlen⟩:=(ae HL).bN.goes ic;obtain ⟨f,rfl⟩:∃f,fuel=f+1:=⟨fuel - 1,by omega⟩;have o8:=hide (lS (ae HC) ic);have qK:=hide pJ;have HT:=hide (show Calls Tryz.prog 81 #[.pointer (some ⟨p,0,none⟩),.int .i64 13] wr λr w'=>r=.returned (.bool true)/\bI wr w' p x' m'.next from by
     refine (ji (ae HL).bN 13).mono ?_;rintro r w' ⟨rfl,S⟩;rw [aH hc] at S;exact ⟨by simp [hc],S⟩)
    clear hc ic pJ sS;go_wp2_with fail;refine (ae HT).mono ?_;rintro r w2 ⟨rfl,S2⟩;obtain ⟨x2,l2,L2⟩:=(ae HL).call S2 (by omega);have um:=hide (MW L2.bN (dK.keep (ae HO) L2.keeps hp eB) hp (by rw [L2.depth];exact hdp));have r6:=hide L2;clear S2 L2;go_wp2_with fail;refine (ae um).mono ?_;rintro r w3 ⟨c3,rfl,S3,he3⟩;have Mz:=FO m'.next;have DW:=(ae HL).few;obtain ⟨x3,l3,L3⟩:=(ae r6).call S3 Mz;obtain ⟨va,vc,hv⟩:=kI L3.own;subst hv;have I8:=hide L3;have IE:=hide (L3.own.alloc (.cells #[.int .i64 c3.pl,.int .i64 c3.kind,.bool c3.null,.int .i64 c3.n,.string c3.s] 234));have Gv:=hide (World.news_of_block (ai w3 (.cells #[.int .i64 c3.pl,.int .i64 c3.kind,.bool c3.null,.int .i64 c3.n,.string c3.s] 234)));have xD:=hide (aaz c3);have HEQ:=hide (show lk (ls++[c3])=lk ls++p8 c3 from MX ls c3);have ZN:=hide (show p8 c3=#[.int .i64 c3.pl,.int .i64 c3.kind,.bool c3.null,.int .i64 c3.n,.string c3.s].toList from rfl);have tq:=L3.keeps.size;have HE3:=hide he3;obtain ⟨o3,K6⟩:∃o3,o3=p8 c3:=⟨_,rfl⟩;rw [<- K6] at xD HEQ ZN;have Ez:=hide K6;clear S3 L3 he3 K6;go_wp2_with (at_builtin;refine cA _ rfl _ _ 167 rfl w.heap.size 234 i0 _ 5 48 Tryz.underlying167 hi jS jD jv rfl (by decide) _ _ _ rfl (ae IE) ⟨w3.heap.size,0,none⟩ 1 1 o3 rfl (by rw [ae ZN];rfl) (by rw [ae ZN];exact ae Gv) (ae xD) (by decide) ?c3 ?c4 ?c5 ?_)
    case c3=>unfold maxLen;omega
    case c4=>omega
    case c5=>simp;omega
    intro g cap w5 br bE bW;have Wv:=(ae I8).app br bE (by simpa using bW) (by omega);have UZ:=hide (show fP w w5 p x x3 m (mh m'.next).2 l3 234 5 (.slice (some ⟨g,0,none⟩) (ls.length+1) cap) (ls++[c3]).length (lk (ls++[c3])) from by rw [au,ae HEQ];exact Wv);clear br bE bW Wv;go_wp2_with fail;go_roundw
    case rel=>
     refine ⟨x3,_,l3,ls++[c3],_,f,UZ,by omega,o8,hide (λha=>?_)⟩;rw [ae HE (ae qK),ae HE3 ha]
    case measure=>exact rZ rfl rfl (by omega)
  . have ic:m'.is kj=false:=by rw [sS];simpa using hc
    have jZ:(lp,m')=cC mh m:=(lT ic).symm.trans (ae HC);have HF:=hide jZ;have HT:=hide (show Calls Tryz.prog 81 #[.pointer (some ⟨p,0,none⟩),.int .i64 13] wr λr w'=>r=.returned (.bool false)/\bI wr w' p x' m' from by
     refine (ji (ae HL).bN 13).mono ?_;rintro r w' ⟨rfl,S⟩;rw [aA hc] at S;exact ⟨by simp [hc],S⟩)
    clear hc ic sS jZ;go_wp2_with fail;refine (ae HT).mono ?_;rintro r w2 ⟨rfl,S2⟩;obtain ⟨x2,l2,L2⟩:=(ae HL).call S2 (af _);have r6:=hide L2;clear S2 L2;go_wp2_with fail;go_ret;refine ⟨_,ls,rfl,?_,(ae r6).own,?_⟩
    . rw [<- ae HF];exact (ae r6).step
    . rw [<- ae HF];exact ae HE
theorem wV (w:World)(c:Nat):mY (w.alloc (.cells #[.int .i64 c] 100)) w.heap.size [c]:=λj hj=>by
 have e:j=0:=by simp at hj;omega
 subst e;have hb:=ai w (.cells #[.int .i64 c] 100);simp only [World.cell?,hb];rfl
theorem aaA {m:Mode}(hw:m.tk.wf):m.is qj=decide (aB m.tk=17):=iW (i:=12) hw rfl (by decide)
theorem FP {sub:Option vI}{Q:Nat->Mode->Prop}(mC:vB 196 (gM sub) Q)
 (hn:∀(w:World) (p:Nat) (x:cB) (m:Mode) (l:List Tok),cO w p x m l->dK w->12<=p->Q x.depth m->m.is qj=true->Calls Tryz.prog 168 #[.pointer (some ⟨p,0,none⟩),.int .i64 13,.func (.func 195) #[.pointer (some ⟨p,0,none⟩)] #[]] w λr w'=>
   ∃e,r=.returned (qL e)/\bI w w' p x (gN sub m).2/\((gN sub m).2.alive->e=(gN sub m).1)) :
 vB 195 (gN sub) Q:=by
 intro w p x m l h ho hp hq;have eB:=h.bN.lt;have iw:Below w.heap.size w (w.alloc (.cells #[.int .i64 17] 100)):=(ag _ _).alloc (af _) _;have RD:=aaA h.xF;have HI:=hide (lh (h.below iw) [17] w.heap.size 1 (wV w 17) (by simp) (by simp));have HA:=hide ((PG.start h).below iw);have HO:=hide (ho.below iw (by omega));have HQ:=hide hq;clear h ho hq iw;by_cases hk:aB m.tk=17
 . have nx:m.is qj=true:=by rw [RD];simpa using hk
   have hd:decide (aB m.tk∈[17])=true:=by simpa using hk
   rw [hd] at HI;have Hd:=hide nx;clear hk RD hd nx;go_enter Tryz.func195,Tryz.ntmps195;go_wp2_with fail;refine (ae HI).mono ?_;rintro r w1 ⟨rfl,bL⟩;have A1:=(ae HA).below bL;have HN:=hide (hn _ p x m l A1.bN ((ae HO).below bL (by simp;omega)) hp (ae HQ) (ae Hd));have qp:=hide A1;clear bL A1;go_wp2_with fail;refine (ae HN).mono ?_;rintro r w2 ⟨e,rfl,S2,he⟩;obtain ⟨te,ve,jW⟩:=ek e;obtain ⟨x2,l2,A2⟩:=(ae qp).call S2;have HS:=hide A2.step;have HE:=hide he;have yD:=hide jW;rw [jW];clear S2 A2 he jW;go_wp2_with fail;go_ret;exact ⟨e,(by rw [ae yD];first|done|rfl),ae HS,ae HE⟩
 . have nx:m.is qj=false:=by rw [RD];simpa using hk
   have hd:decide (aB m.tk∈[17])=false:=by simpa using hk
   rw [hd] at HI;have hs:gN sub m=gM sub m:=by unfold gN;rw [aA (by rw [nx];decide)]
   rw [hs];clear hk RD hd nx hs;go_enter Tryz.func195,Tryz.ntmps195;go_wp2_with fail;refine (ae HI).mono ?_;rintro r w1 ⟨rfl,bL⟩;have A1:=(ae HA).below bL;have HN:=hide (mC _ p x m l A1.bN ((ae HO).below bL (by simp;omega)) hp (ae HQ));have qp:=hide A1;clear bL A1;go_wp2_with fail;refine (ae HN).mono ?_;rintro r w2 ⟨e,rfl,S2,he⟩;obtain ⟨te,ve,jW⟩:=ek e;obtain ⟨x2,l2,A2⟩:=(ae qp).call S2;have HS:=hide A2.step;have HE:=hide he;have yD:=hide jW;rw [jW];clear S2 A2 he jW;go_wp2_with fail;go_ret;exact ⟨e,(by rw [ae yD];first|done|rfl),ae HS,ae HE⟩
theorem aaB {m:Mode}(hw:m.tk.wf):m.is wq=decide (aB m.tk=37):=eu (i:=16) hw rfl (by decide)
theorem FQ {sub:Option vI}{Q:Nat->Mode->Prop}(mC:vB 169 (mo sub) Q)
 (hn:∀(w:World) (p:Nat) (x:cB) (m:Mode) (l:List Tok),cO w p x m l->dK w->12<=p->Q x.depth m->m.is wq=true->Calls Tryz.prog 168 #[.pointer (some ⟨p,0,none⟩),.int .i64 14,.func (.func 154) #[.pointer (some ⟨p,0,none⟩)] #[]] w λr w'=>
   ∃e,r=.returned (qL e)/\bI w w' p x (gO sub m).2/\((gO sub m).2.alive->e=(gO sub m).1)) :
 vB 154 (gO sub) Q:=by
 intro w p x m l h ho hp hq;have eB:=h.bN.lt;have iw:Below w.heap.size w (w.alloc (.cells #[.int .i64 37] 100)):=(ag _ _).alloc (af _) _;have RD:=aaB h.xF;have HI:=hide (lh (h.below iw) [37] w.heap.size 1 (wV w 37) (by simp) (by simp));have HA:=hide ((PG.start h).below iw);have HO:=hide (ho.below iw (by omega));have HQ:=hide hq;clear h ho hq iw;by_cases hk:aB m.tk=37
 . have nx:m.is wq=true:=by rw [RD];simpa using hk
   have hd:decide (aB m.tk∈[37])=true:=by simpa using hk
   rw [hd] at HI;have Hd:=hide nx;clear hk RD hd nx;go_enter Tryz.func154,Tryz.ntmps154;go_wp2_with fail;refine (ae HI).mono ?_;rintro r w1 ⟨rfl,bL⟩;have A1:=(ae HA).below bL;have HN:=hide (hn _ p x m l A1.bN ((ae HO).below bL (by simp;omega)) hp (ae HQ) (ae Hd));have qp:=hide A1;clear bL A1;go_wp2_with fail;refine (ae HN).mono ?_;rintro r w2 ⟨e,rfl,S2,he⟩;obtain ⟨te,ve,jW⟩:=ek e;obtain ⟨x2,l2,A2⟩:=(ae qp).call S2;have HS:=hide A2.step;have HE:=hide he;have yD:=hide jW;rw [jW];clear S2 A2 he jW;go_wp2_with fail;go_ret;exact ⟨e,(by rw [ae yD];first|done|rfl),ae HS,ae HE⟩
 . have nx:m.is wq=false:=by rw [RD];simpa using hk
   have hd:decide (aB m.tk∈[37])=false:=by simpa using hk
   rw [hd] at HI;have hs:gO sub m=mo sub m:=by unfold gO;rw [aA (by rw [nx];decide)]
   rw [hs];clear hk RD hd nx hs;go_enter Tryz.func154,Tryz.ntmps154;go_wp2_with fail;refine (ae HI).mono ?_;rintro r w1 ⟨rfl,bL⟩;have A1:=(ae HA).below bL;have HN:=hide (mC _ p x m l A1.bN ((ae HO).below bL (by simp;omega)) hp (ae HQ));have qp:=hide A1;clear bL A1;go_wp2_with fail;refine (ae HN).mono ?_;rintro r w2 ⟨e,rfl,S2,he⟩;obtain ⟨te,ve,jW⟩:=ek e;obtain ⟨x2,l2,A2⟩:=(ae qp).call S2;have HS:=hide A2.step;have HE:=hide he;have yD:=hide jW;rw [jW];clear S2 A2 he jW;go_wp2_with fail;go_ret;exact ⟨e,(by rw [ae yD];first|done|rfl),ae HS,ae HE⟩
theorem XK {l:List UInt8}(h:0<(ByteArray.mk ⟨l⟩).size)(hn:ej ⟨⟨l⟩⟩ 0 h≠0):(ByteArray.mk ⟨l⟩).extract 0 (ej ⟨⟨l⟩⟩ 0 h)∈ei:=by
 have key:ei.findIdx (λs=>Lib.hasPrefix l s.data.toList)<ei.length:=by
  apply kr;intro hk;apply hn;refine IZ (λj s' hj=>?_) h;have cF:j<ei.length:=(ak.mp hj).1;have h1:=List.not_of_lt_findIdx (p:=λs=>Lib.hasPrefix l s.data.toList) (xs:=ei) (i:=j) (by omega);have h2:ei[j]=s':=(ak.mp hj).2;rw [h2] at h1;simpa using h1
 have hp:=qe (p:=λ(s:ByteArray)=>Lib.hasPrefix l s.data.toList) (xs:=ei) (w:=key);have hf:=Ff (k:=ei.findIdx (λs=>Lib.hasPrefix l s.data.toList)) (ah key) hp (λj s' hj hs=>by
  have h1:=List.not_of_lt_findIdx (p:=λs=>Lib.hasPrefix l s.data.toList) (xs:=ei) (i:=j) hj;have h2:ei[j]'(by omega)=s':=(ak.mp hs).2;rw [h2] at h1;simpa using h1) h
 rw [hf.1,hf.2.1];exact fG key
theorem aaQ (S:ByteArray)(i:Nat)(h:i<S.size)(hn:ej S i h≠0):S.extract i (i+ej S i h)∈ei:=by
 have h':0<(S.extract i S.size).size:=by rw [kB];omega
 have hs:=Fl S i h h';have he:=tH S i 0 (ej S i h);rw [iY] at he;rw [<- he,<- hs];rw [<- hs] at hn;exact XK (l:=(S.extract i S.size).data.toList) h' hn
theorem lex_wf (S:ByteArray)(i:Nat)(h:i<S.size):(eV S i h).1.wf:=by
 rw [eV];split
 . simp only
   split
   . trivial
   . split
     . rename_i hw
       obtain ⟨s,hs,he⟩:=np.mp hw;rw [iQ] at he;show _∈bS;rw [he];exact hs
     . trivial
 . split
   . simp only
     split
     . trivial
     . rename_i hn
       show lM _<=_;omega
   . split
     . simp only
       split
       . split<;>trivial
       . trivial
     . simp only
       split
       . trivial
       . rename_i hn
         exact aaQ S i h hn
theorem aaR (S:ByteArray)(i:Nat):∀t∈dB S i,t.k.wf:=by
 induction hn:S.size - i using Nat.strongRecOn generalizing i with
 |_ n ih=>
   rw [dB];split
   . rename_i hj
     split
     . intro t ht
       simp at ht;subst ht;trivial
     . rename_i hk
       have h1:=fg S bU i;have h2:=(qZ S (aM S bU i) hj (by simpa using hk)).1;intro t ht;rcases bY.mp ht with rfl|ht
       . exact lex_wf S _ hj
       . exact ih (S.size - (eV S (aM S bU i) hj).2) (by omega) _ rfl t ht
   . intro t ht
     simp at ht;subst ht;trivial
theorem XL (S:ByteArray)(i:Nat):∀t,(dB S i).getLast?=some t->t.k.ends=true:=by
 induction hn:S.size - i using Nat.strongRecOn generalizing i with
 |_ n ih=>
   rw [dB];split
   . rename_i hj
     split
     . intro t ht
       simp at ht;subst ht;rfl
     . rename_i hk
       have h1:=fg S bU i;have h2:=(qZ S (aM S bU i) hj (by simpa using hk)).1;intro t ht;have iq:=zU S (eV S (aM S bU i) hj).2;rw [List.getLast?_cons] at ht
       cases hl:(dB S (eV S (aM S bU i) hj).2).getLast? with
       |none=>exact absurd (List.getLast?_eq_none_iff.mp hl) iq
       |some u=>
         rw [hl] at ht;have:u=t:=by simpa using ht
         subst this;exact ih (S.size - (eV S (aM S bU i) hj).2) (by omega) _ rfl u hl
   . intro t ht
     simp at ht;subst ht;rfl
theorem cO.begin {w:World}{p:Nat}{S:ByteArray}{v:Value}(hS:S.size<=300)(hp:Pg w p ⟨v,0,0,0,0⟩)(ho:w.ownsRow 0 102 4 v (dB S 0).length (wO (dB S 0)))(ha:v.ownBlock≠some p):cO w p ⟨v,0,0,0,0⟩ (Mode.of (dB S 0)) (dB S 0):=by
 have hl:=AL S 0 (aN _);refine ⟨hp,ho,ha,?_,by omega,aaR S 0,XL S 0⟩
 cases ht:dB S 0 with
 |nil=>exact absurd ht (zU S 0)
 |cons t ts=>exact ⟨rfl,rfl⟩
end Go.Proofs.YteniahoehoncjaaGreatDoor
