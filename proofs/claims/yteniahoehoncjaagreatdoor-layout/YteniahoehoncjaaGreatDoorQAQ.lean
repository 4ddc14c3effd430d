import Derived.Test.YteniahoehoncjaaGreatDoorQAP
import Derived.DeepKeys4
set_option maxHeartbeats 99999999
set_option maxRecDepth 100000
namespace Go.Proofs.YteniahoehoncjaaGreatDoor
open Go.RowKit
section
open Go.Maps Go.WideMaps
namespace S
theorem Tryz.laidOut:laidOutB Tryz.prog=true:=by kernel_rfl
theorem Tryz.abt:(214:TypeId)<Tryz.prog.types.size:=jm (by kernel_rfl)
theorem Tryz.acQ:(match Tryz.prog.underlying 214 with|some (.array _ _)|some (.struct _)=>true|_=>false)=true:=by kernel_rfl
theorem Tryz.abu:KeyLaw Tryz.prog 214:=deep_law_laid Tryz.laidOut (m:=2) (by omega) Tryz.abt (by kernel_rfl) Tryz.acQ
theorem Tryz.DH:Keyed Tryz.prog 214:=Keyed.of_law Tryz.abu
theorem Tryz.Zf:Tryz.prog.cellsOf 214=3:=by kernel_rfl
theorem Tryz.acR:Tryz.prog.cellsOf 3=1:=by kernel_rfl
theorem Tryz.acS:Tryz.prog.cellsOf 4=1:=by kernel_rfl
theorem Tryz.Oo:Tryz.prog.cellsOf 9=1:=by kernel_rfl
theorem Tryz.RW:Tryz.prog.keyType 214=true:=by kernel_rfl
theorem Tryz.Vl (w:World):(zeroValue 3).run Tryz.prog w=.ok (.int .i64 0) w:=by kernel_rfl
def kl (c:Cl):Lit:=.string (keyBytes [.bool c.null,.int .i64 c.n,.string c.s.data.toList])
theorem Ls {n:Int}(h:bZ n):(Lit.int .i64 n).wf=true:=by
 unfold bZ at h;exact WalkArith.wf_i64 h
theorem Lt {P:Program}{m:Nat}(hm:P.types.size=m+1)
 (h37:P.underlying 214=some (TypeDesc.struct #[{ name:= "Null",type:=4,offset:=0,embedded:=false,tag:= "",pkgPath:= "",byteOffset:=0 },{ name:= "N",type:=3,offset:=1,embedded:=false,tag:= "",pkgPath:= "",byteOffset:=8 },{ name:= "S",type:=9,offset:=2,embedded:=false,tag:= "",pkgPath:= "",byteOffset:=16 }]))
 (h4:P.underlying 4=some .bool) (h3:P.underlying 3=some (.int .i64)) (h9:P.underlying 9=some .string) (hkt:P.keyType 214=true) (c37:P.cellsOf 214=3) (c4:P.cellsOf 4=1) (c3:P.cellsOf 3=1) (c9:P.cellsOf 9=1)
 (c:Cl) (h:vY c):keyOf P 214 (.agg #[.bool c.null,.int .i64 c.n,.string c.s])=some (kl c):=by
 have hw:=Ls h.1;have hs:c.s.size<=maxLen:=by have:=h.2;unfold maxLen;omega
 simp [keyOf,h37,hkt,Value.formed,c37,Value.cells,Program.keyLits,hm,h4,h3,h9,c3,c4,c9,hw,hs,kl]
theorem zM (c:Cl)(h:vY c):keyOf Tryz.prog 214 (.agg #[.bool c.null,.int .i64 c.n,.string c.s])=some (kl c):=by
 obtain ⟨m,hm⟩:=pz.2 (cW (aN _) Tryz.abt);exact Lt hm Tryz.underlying214 Tryz.underlying4 Tryz.underlying3 Tryz.underlying9 Tryz.RW Tryz.Zf Tryz.acS Tryz.acR Tryz.Oo c h
theorem acT {c d:Cl}(hc:vY c)(hd:vY d)(h:kl c=kl d):c=d:=by
 have e:=Tryz.abu.inj (zM c hc) (h ▸ zM d hd);simp only [Value.agg.injEq] at e;have e':=aU Array.toList e;simp at e';exact Cl.ext' e'.1 e'.2.1 e'.2.2
def known (es:List Cl)(c:Cl):Bool:=es.any λd=>d.beq c
def place (es:List Cl)(c:Cl):Nat:=es.findIdx λd=>d.beq c
def sX (es:List Cl)(c:Cl):List Cl:=if known es c then es else es++[c]
def nD (cs:List Cl):List Cl:=cs.foldl sX []
theorem RX (cs:List Cl)(c:Cl):nD (cs++[c])=sX (nD cs) c:=by simp [nD]
theorem zN (cs:List Cl):(nD cs).length<=cs.length:=by
 suffices H:∀(cs es:List Cl),(cs.foldl sX es).length<=es.length+cs.length by simpa [nD] using H cs []
 intro cs
 induction cs with
 |nil=>simp
 |cons c r ih=>
   intro es;rw [iA];have:=ih (sX es c);have h2:(sX es c).length<=es.length+1:=by unfold sX;split<;>simp
   simp only [List.length_cons];omega
theorem Em {cs:List Cl}{c:Cl}(h:c∈nD cs):c∈cs:=by
 suffices H:∀(cs es:List Cl),c∈cs.foldl sX es->c∈es\/c∈cs by simpa using H cs [] h
 intro cs
 induction cs with
 |nil=>intro es h;exact .inl h
 |cons d r ih=>
   intro es h;rw [iA] at h;rcases ih _ h with h|h
   . unfold sX at h
     split at h
     . exact .inl h
     . rcases dm.1 h with h|h
       . exact .inl h
       . simp at h;exact .inr (by simp [h])
   . exact .inr (by simp [h])
theorem Br (es:List Cl)(c:Cl):known es c=true↔c∈es:=by
 simp only [known,List.any_eq_true];constructor
 . rintro ⟨d,hd,e⟩;rw [Cl.beq_iff] at e;subst e;exact hd
 . intro h;exact ⟨c,h,(Cl.beq_iff c c).2 rfl⟩
theorem En {cs:List Cl}{c:Cl}(h:c∈cs):known (nD cs) c=true:=by
 suffices H:∀(cs es:List Cl),(c∈es\/c∈cs)->c∈cs.foldl sX es by exact (Br _ _).2 (H cs [] (.inr h))
 intro cs
 induction cs with
 |nil=>intro es h;simpa using h
 |cons d r ih=>
   intro es h;rw [iA];apply ih;by_cases hc:c∈r
   . exact .inr hc
   . refine .inl ?_
     unfold sX;rcases h with h|h
     . split
       . exact h
       . exact List.mem_append_left _ h
     . have:c=d:=by simpa [hc] using h
       subst this;split
       . exact (Br _ _).1 ‹_›
       . simp
theorem zO {es:List Cl}{c:Cl}(h:known es c=true):place es c<es.length:=by
 unfold place;rw [List.findIdx_lt_length];simpa [known] using h
theorem RY {es:List Cl}{c:Cl}(h:known es c=true):es[place es c]?=some c:=by
 have hl:=zO h;rw [ah hl];have:=qe (xs:=es) (p:=λd=>d.beq c) (w:=(show es.findIdx (λd=>d.beq c)<es.length from hl));rw [Cl.beq_iff] at this;exact aU some this
def Eo (es:List Cl)(D:DataW Unit):Prop:=
 IsMap D/\∀c,vY c->Maps.has D (kl c)=known es c/\(known es c=true->D.atKey (kl c) (.lit (.int .i64 0))=.lit (.int .i64 (place es c:Int)))
theorem Oq:Eo [] (.map []):=⟨isMap_empty,λc _=>⟨rfl,λh=>by simp [known] at h⟩⟩
theorem Eo.add {es:List Cl}{D:DataW Unit}(h:Eo es D){c:Cl}(hc:vY c)(hn:known es c=false):Eo (es++[c]) (D.put (kl c) (.lit (.int .i64 (es.length:Int)))):=by
 have hk:WideAt.IsKeyLit (kl c):=trivial;refine ⟨h.1.put _ _,λd hd=>?_⟩;by_cases e:d=c
 . subst e
   have h1:known (es++[d]) d=true:=(Br _ _).2 (by simp);rw [has_put_same h.1 hk,h1];refine ⟨rfl,λ_=>?_⟩;rw [atKey_put_same h.1 hk];have:place (es++[d]) d=es.length:=by
    unfold place;rw [List.findIdx_append];have h2:es.findIdx (λx=>x.beq d)=es.length:=by
     apply List.findIdx_eq_length.2;intro x hx;have:=kJ.1 (show es.any (λx=>x.beq d)=false from hn) x hx;simpa using this
    rw [h2,aA (by omega)];simp [List.findIdx_cons,(Cl.beq_iff d d).2 rfl]
   rw [this]
 . have iq:kl d≠kl c:=λh=>e (acT hd hc h)
   rw [has_put_other iq,atKey_put_other iq];have hb:c.beq d=false:=by
    cases hb:c.beq d
    . rfl
    . exact absurd ((Cl.beq_iff _ _).1 hb).symm e
   have h1:known (es++[c]) d=known es d:=by simp [known,hb]
   rw [h1];refine ⟨(h.2 d hd).1,λhk=>?_⟩;rw [(h.2 d hd).2 hk];have:place (es++[c]) d=place es d:=by
    unfold place;rw [List.findIdx_append,aH (show es.findIdx (λx=>x.beq d)<es.length from zO hk)]
   rw [this]
def pw (n:Nat):Nat:=bitLen (max n 1 - 1)
theorem QN (n:Nat)(h:n<=255):pw n<=8:=bitLen_le _ 8 (by omega)
theorem agK {i n:Nat}(h:i<n):i<2 ^ pw n:=by
 have h1:=Bm (max n 1 - 1);have h2:i<=max n 1 - 1:=by omega
 exact cW h2 h1
def jJ (es:List Cl)(cs:List Cl):List Bool:=cs.flatMap λc=>bitsOf (place es c) (pw es.length)
theorem v7 (es cs:List Cl)(c:Cl):jJ es (cs++[c])=jJ es cs++bitsOf (place es c) (pw es.length):=by simp [jJ,List.flatMap_append]
theorem sE (es cs:List Cl):(jJ es cs).length=cs.length*pw es.length:=by
 induction cs with
 |nil=>simp [jJ]
 |cons c r ih=>
   have e:jJ es (c::r)=bitsOf (place es c) (pw es.length)++jJ es r:=rfl;rw [e,au,ih,bk,aY,qO];omega
def uq (k:Int)(cs:List Cl):List Bool:=bitsOf (nD cs).length 8++gd k (nD cs)++jJ (nD cs) cs
def bw (cs:List Cl):List Value:=cs.flatMap λc=>[.bool c.null,.int .i64 c.n,.string c.s]
theorem qV (cs:List Cl):(bw cs).length=cs.length*3:=by
 induction cs with
 |nil=>rfl
 |cons c r ih=>have e:bw (c::r)=[.bool c.null,.int .i64 c.n,.string c.s]++bw r:=rfl;rw [e,au,ih,aY];simp;omega
theorem wj (cs:List Cl)(c:Cl):bw (cs++[c])=bw cs++[.bool c.null,.int .i64 c.n,.string c.s]:=by simp [bw,List.flatMap_append]
theorem Ep {cs:List Cl}{i:Nat}{c:Cl}(h:cs[i]?=some c):(bw cs)[i*3]?=some (.bool c.null)/\(bw cs)[i*3+1]?=some (.int .i64 c.n)/\(bw cs)[i*3+2]?=some (.string c.s):=by
 induction cs generalizing i with
 |nil=>simp at h
 |cons d r ih=>
   have e:bw (d::r)=[.bool d.null,.int .i64 d.n,.string d.s]++bw r:=rfl
   cases i with
   |zero=>simp at h;subst h;rw [e];simp
   |succ i=>
     have h':=ih (i:=i) (by simpa using h);rw [e];have h3:∀j,([Value.bool d.null,.int .i64 d.n,.string d.s]++bw r)[j+3]?=(bw r)[j]?:=λj=>by
      rw [bm (by simp)];simp
     rw [show (i+1)*3=i*3+3 by omega,show i*3+3+1=(i*3+1)+3 by omega,show i*3+3+2=(i*3+2)+3 by omega,h3,h3,h3];exact h'
theorem xp {w:World}{base g n cap:Nat}{e:TypeId}{cs:List Cl}(h:w.ownsRow base e 3 (.slice (some ⟨g,0,none⟩) n cap) n (bw cs)):gT w g 0 cs:=by
 intro i c hc;have hl:i<cs.length:=(ak.1 hc).1;have hn:cs.length=n:=by have:=h.1;rw [qV] at this;omega
 obtain ⟨h1,h2,h3⟩:=Ep hc;rw [eP];exact ⟨(h.cellAt _ (by omega)).trans h1,(h.cellAt _ (by omega)).trans h2,(h.cellAt _ (by omega)).trans h3⟩
theorem GL {H:Type}{w w':World}{P:Program}{k:TypeId}{R:Value->Option (DataW H×List MemPlace)}{b n:Nat}{D:DataW H}(h:w.ownsMap P k R b n D)(hb:w'.heap[b]?=w.heap[b]?):w'.ownsMap P k R b n D:=by
 obtain ⟨es,clock,h1,h2⟩:=h;exact ⟨es,clock,hb.trans h1,h2⟩
end S
namespace S
theorem QO (x:Int)(w:World)(h0:0<=x)(h1:x<18446744073709551616) :
 Calls Tryz.prog 245 #[.int .u64 x] w λe w'=>e=.returned (.int .i64 (bitLen x.toNat:Int))/\w=w':=by
 go_enter Tryz.func245,Tryz.ntmps245;go_wp2_with (go_at_call 187;refine (Bn _ _ h0 h1).mono ?_;rintro e w' ⟨rfl,rfl⟩);go_ret;exact ⟨rfl,rfl⟩
theorem wk (n:Nat)(w:World)(h1:n<=255) :
 Calls Tryz.prog 303 #[.int .i64 (n:Int)] w λe w'=>e=.returned (.int .i64 (pw n:Int))/\w=w':=by
 have e0:(n:Int)<1->(bitLen (0:Int).toNat:Int)=(pw n:Int):=by
  intro h;have:n=0:=by omega
  subst this;rfl
 have e1:(1:Int)<=n->(bitLen (n - 1):Int)=(pw n:Int):=by
  intro h;have:n - 1=max n 1 - 1:=by omega
  rw [this];rfl
 have H0:=hide e0;have H1:=hide e1;clear e0 e1;go_enter Tryz.func303,Tryz.ntmps303;go_wp2_with fail
 . refine (QO _ _ (by omega) (by omega)).mono ?_
   rintro e w' ⟨rfl,rfl⟩;go_wp2;go_ret;exact ⟨aU Ending.returned (aU (Value.int IntKind.i64) (ae H0 (by assumption))),rfl⟩
 . refine (QO _ _ (by omega) (by omega)).mono ?_
   rintro e w' ⟨rfl,rfl⟩;go_wp2;go_ret;exact ⟨aU Ending.returned (aU (Value.int IntKind.i64) (ae H1 (by assumption))),rfl⟩
theorem kN {w:World}{base:Nat}{e:TypeId}{size:Nat}{v:Value}{n:Nat}{xs:List Value}(h:w.ownsRow base e size v n xs):∃a cap,v=.slice a n cap/\(0<n->∃g,a=some ⟨g,0,none⟩)/\n<=cap:=by
 rcases h.2 with ⟨rfl,rfl⟩|⟨g,cap,cur,rfl,_,_,hn,_⟩
 . exact ⟨none,0,rfl,λh=>by omega,by omega⟩
 . exact ⟨_,cap,rfl,λ_=>⟨g,rfl⟩,hn⟩
theorem Er {w:World}{base:Nat}{e:TypeId}{size:Nat}{v:Value}{n:Nat}{xs:List Value}(h:w.ownsRow base e size v n xs){M:Nat}(hM:M<base):v.ownBlock=none\/v.ownBlock≠some M:=by
 cases hv:v.ownBlock with
 |none=>exact .inl rfl
 |some g=>have:=(h.lt g hv).1;exact .inr (by intro e;simp at e;omega)
def K2 (K:Nat->Prop)(a b:Nat)(j:Nat):Prop:=K j\/(a<=j/\j<b)
theorem Lu {w w1:World}{c:Cl}{M:Nat}(hg:(w.alloc (.cells #[.bool c.null,.int .i64 c.n,.string c.s] 214)).grownBy w1 (some M))(hM:M<w.heap.size) :
 w1.cell? ⟨w.heap.size,0,none⟩=some (.bool c.null)/\w1.cell? ⟨w.heap.size,1,none⟩=some (.int .i64 c.n)/\w1.cell? ⟨w.heap.size,2,none⟩=some (.string c.s):=by
 refine ⟨hg.cell ?_ (by simp;omega),hg.cell ?_ (by simp;omega),hg.cell ?_ (by simp;omega)⟩<;>(rw [bK _ _ _ _ rfl];rfl)
theorem Tryz.Et:(Tryz.prog.info? 214).map (λi=>(i.zero,i.size,i.bytes))=some (some (.agg #[.bool false,.int .i64 0,.string ByteArray.empty]),3,32):=by kernel_rfl
theorem GM (K:Nat->Prop)(p:Nat)(l:List Bool)(k:Int)(cs:List Cl)(a:Option Addr)(b off cap:Nat)(w:World)(hw:Writer K w p l)
 (ha:0<cs.length->a=some ⟨b,off,none⟩) (hc:gT w b off cs) (hK:0<cs.length->K b) (kW:∀c∈cs,vY c) (hlen:cs.length<=64) (hb:l.length<=1000) :
 Calls Tryz.prog 302 #[.agg #[],.pointer (some ⟨p,0,none⟩),.int .i64 k,.slice a cs.length cap] w λe w'=>e=.returned (.tuple #[])/\Writer K w' p (l++uq k cs)/\aQ K w w':=by
 obtain ⟨i0,hi,jS,jD,jv⟩:=info_parts Tryz.Et;have UD:=@run_makeMap Tryz.prog;have HC:=hide hc;have HO:=hide kW;have HW:=hide hw;clear hc kW hw;go_enter Tryz.func302,Tryz.ntmps302;go_wp2;go_loopw [9,22] (λv c wr=>∃(i:Nat) (D:DataW Unit),i<=cs.length/\c=.int .i64 i/\Hid (Eo (nD (cs.take i)) D)/\wr.ownsMap Tryz.prog 214 (plainElem Tryz.prog 3) (w.heap.size+1) i D/\wr.ownsRow (w.heap.size+2) 214 3 v (nD (cs.take i)).length (bw (nD (cs.take i)))/\Below w.heap.size w wr/\w.heap.size+2<=wr.heap.size)
  (λ_ c _=>cs.length - (intOf c).toNat)
 case atStart=>
  refine ⟨0,.map [],aN _,rfl,hide Oq,?_,ia _ _ _ _,((ag _ _).alloc (af _) _).alloc (by simp) _,by simp⟩;have:=World.ownsMap_made (H:=Unit) (w.alloc (.cells #[] 284)) Tryz.prog 214 (plainElem Tryz.prog 3);simpa using this
 case round=>
  obtain ⟨i,D,Ot,rfl,HDK,RZ,br,kU,kd⟩:=hrel;by_cases cF:i<cs.length
  . have jI:(i:Int)<(cs.length:Int):=by omega
    obtain ⟨c,kM⟩:∃c,cs[i]?=some c:=⟨cs[i],ah cF⟩;obtain rfl:=ha (by omega);obtain ⟨c0,c1,c2⟩:=(ae HC) i c kM;have ph:b<w.heap.size:=aX _ _ c0;have Ze:b<wr.heap.size:=aF ph kU.size;rw [<- kU.cell (p:=⟨b,_,none⟩) ph] at c0 c1 c2;have hm:=ae HO c (aG kM);have Lv:=zM c hm;have hD:=(ae HDK).2 c hm;have hes:=zN (cs.take i);rw [bV] at hes;have Ou:nD (cs.take (i+1))=sX (nD (cs.take i)) c:=by rw [dF kM,RX]
    generalize nD (cs.take i)=es at *;have Zg:=hide Ou;have HM:=hide hm;have HB:=hide kU;have HI:=hide kM;have lX:=hide br;have R4:=hide (RZ.alloc (.cells #[.bool c.null,.int .i64 c.n,.string c.s] 214));have Vm:=hide Lv;clear Ou hm kU kM br RZ Lv ha hK;obtain ⟨va,cJ,rfl,-,Yw⟩:=kN (ae lX)
    cases yG:known es c
    . rw [yG] at hD
      have Vn:=hD.1;have Lw:=hide yG;have HH:=hide Vn;clear hD yG Vn;go_wp2_with (first|(at_lookup;refine wpList_lookup_own_ok_int _ rfl _ _ 414 rfl 214 3 .i64 Tryz.DH Tryz.underlying414 Tryz.underlying3 (Tryz.Vl _) (w.heap.size+1) i _ rfl (ae R4) _ _ rfl (ae Vm) ?_;intro q jM hwc;rw [ae HH])|(at_mapUpdate;refine wpList_mapUpdate_own _ rfl _ _ _ 414 rfl 214 3 Tryz.DH Tryz.underlying414 _ (w.heap.size+1) i _ rfl (ae R4) (by unfold maxLen;omega) _ _ _ rfl rfl (ae Vm) _ [] (plainElem_int Tryz.underlying3 (WalkArith.wf_i64 (by omega))) ?_;intro w1 Im Bs;clear jM hwc;obtain ⟨k0,k1,k2⟩:=Lu Bs (by omega))|(at_builtin;refine oY _ rfl _ _ 198 rfl (w.heap.size+2) 214 i0 _ 3 32 Tryz.underlying198 hi jS jD jv rfl (by decide) _ _ _ rfl ((((ae lX).alloc (.cells #[.bool c.null,.int .i64 c.n,.string c.s] 214)).kept Bs (Er (ae lX) (by omega))).alloc (.cells #[.bool c.null,.int .i64 c.n,.string c.s] 214)) ⟨w1.heap.size,0,none⟩ 1 1 [.bool c.null,.int .i64 c.n,.string c.s] rfl rfl ?c1 ?c2 ?c3 ?c4 ?c5 ?_))
      case c1=>
       intro j u hj
       match j,hj with
       |0,hj=>simp at hj;subst hj;simp [Addr.add]
       |1,hj=>simp at hj;subst hj;simp [Addr.add]
       |2,hj=>simp at hj;subst hj;simp [Addr.add]
      case c2=>intro u hu;simp at hu;rcases hu with rfl|rfl|rfl<;>rfl
      case c3=>unfold maxLen;omega
      case c4=>omega
      case c5=>have:=Bs.size;simp at this ⊢;omega
      intro v' w2 sY JT _;have iq:=Er (ae lX) (M:=w.heap.size+1) (by omega);have gC:∀g,(Value.slice va es.length cJ).ownBlock=some g->w.heap.size<=g:=λg hg=>by have:=((ae lX).lt g hg).1;omega
      have s1:=Bs.size;have s2:=JT.size;simp only [World.size_alloc] at s1 s2;have Vo:=hide ((Im.alloc (.cells #[.bool c.null,.int .i64 c.n,.string c.s] 214)).kept JT (by rcases iq with h|h;rw [h];simp;exact Ne.symm h));have eI:=hide (((((ae HB).alloc (ae HB).size (.cells #[.bool c.null,.int .i64 c.n,.string c.s] 214)).grown Bs (by simp;omega) (λj hj=>by cases hj;omega)).alloc (by omega) (.cells #[.bool c.null,.int .i64 c.n,.string c.s] 214)).grown JT (by simp;omega) gC);have ug:=hide sY;clear iq gC Im Bs JT sY k0 k1 k2 c0 c1 c2;go_wp2;go_roundw
      case rel=>
       have e:nD (cs.take (i+1))=es++[c]:=by rw [ae Zg,sX,ae Lw];rfl
       refine ⟨i+1,_,by omega,by go_num,by rw [e];exact hide ((ae HDK).add (ae HM) (ae Lw)),ae Vo,?_,ae eI,by omega⟩;rw [e,wj,au];exact ae ug
      case measure=>simp [intOf];omega
    . rw [yG] at hD
      have Vn:=hD.1;have Lw:=hide yG;have HH:=hide Vn;clear hD yG Vn;go_wp2_with (first|(at_lookup;refine wpList_lookup_own_ok_int _ rfl _ _ 414 rfl 214 3 .i64 Tryz.DH Tryz.underlying414 Tryz.underlying3 (Tryz.Vl _) (w.heap.size+1) i _ rfl (ae R4) _ _ rfl (ae Vm) ?_;intro q jM hwc;rw [ae HH];clear jM hwc)|fail);go_roundw
      case rel=>
       have e:nD (cs.take (i+1))=es:=by rw [ae Zg,sX,ae Lw];rfl
       refine ⟨i+1,D,by omega,by go_num,by rw [e];exact HDK,(ae R4).mono (by omega),by rw [e];exact (ae lX).alloc _,(ae HB).alloc (ae HB).size _,by simp;omega⟩
      case measure=>simp [intOf];omega
  . rename World=>wa
    obtain rfl:i=cs.length:=by omega
    rw [aP (af _)] at HDK br;have hes:=zN cs;have oy:∀c∈nD cs,vY c:=λc h=>ae HO c (Em h);have yG:∀c∈cs,known (nD cs) c=true:=λc h=>En h;have HE:=hide (show uq k cs=bitsOf (nD cs).length 8++gd k (nD cs)++jJ (nD cs) cs from rfl);generalize nD cs=es at *;have HME:=hide oy;have Lw:=hide yG;obtain ⟨va,cJ,rfl,Eu,Yw⟩:=kN br;have C5:w.grownBy wa none:=gA kU;have HA:=hide ((ae HW).also (K':=K2 K w.heap.size wa.heap.size) C5 (λj hj=>hj));have NS:Hid (gT wa b off cs):=by
     intro j c hj;obtain ⟨h1,h2,h3⟩:=ae HC j c hj;have ph:b<w.heap.size:=aX _ _ h1;exact ⟨(kU.cell (p:=⟨b,_,none⟩) ph).trans h1,(kU.cell (p:=⟨b,_,none⟩) ph).trans h2,(kU.cell (p:=⟨b,_,none⟩) ph).trans h3⟩
    have lX:=hide br;have R4:=hide RZ;have HK0:=hide (aQ.nP (K:=K) C5 (ae HW).old);have HVA:=hide Eu;clear oy yG br RZ kU C5 Eu;go_wp2_with fail;refine (jT _ p l _ _ _ (ae HA) (by omega) (by omega) (by omega) (by rw [show Int.toNat 8=8 from rfl];omega)).mono ?_;rintro e w1 ⟨rfl,h1,h2⟩;rw [show Int.toNat 8=8 from rfl,aZ] at h1;have H1:=hide h1;have H2:=hide h2;clear h1 h2;go_wp2;go_loopw [50] (λc w2=>∃j:Nat,j<=es.length/\c=.int .i64 j/\Hid (Writer (K2 K w.heap.size wa.heap.size) w2 p (l++bitsOf es.length 8++gd k (es.take j)))/\Hid (aQ (K2 K w.heap.size wa.heap.size) wa w2)) (λc _=>es.length - (intOf c).toNat)
    case atStart=>exact ⟨0,aN _,rfl,by simpa [gd,Hid] using ae H1,H2⟩
    case round=>
     obtain ⟨j,hj,rfl,vG,um⟩:=hrel;by_cases hjl:j<es.length
     . have Zh:(j:Int)<(es.length:Int):=by omega
       obtain ⟨g,rfl⟩:=ae HVA (by omega);obtain ⟨c,Yx⟩:∃c,es[j]?=some c:=⟨es[j],ah hjl⟩;have hgl:=(ae lX).lt g rfl;obtain ⟨c0,c1,c2⟩:=(xp (ae lX)).kept (ae um) (.inr ⟨by omega,hgl.2⟩) j c Yx;have ph:g<wr.heap.size:=aX _ _ c0;have hm:=ae HME c (aG Yx);have hle:=pU k (es.take j) (λd hd=>ae HME d (fx hd));rw [bV] at hle;have HJ:=hide Yx;have HMC:=hide hm;clear Yx hm hgl;rw [eP] at c0 c1 c2;go_wp2_with fail;refine (vX _ p _ k c _ ((ae vG).alloc _) (ae HMC).1 (by have:=(ae HMC).2;omega) (by simp only [List.length_append,bk];omega)).mono ?_;rintro e w3 ⟨rfl,h3,h4⟩;have H3:=hide h3;have H4:=hide (((ae um).alloc (ae vG).old _).trans h4);clear h3 h4 hle c0 c1 c2;go_wp2;go_roundw
       case rel=>
        refine ⟨j+1,by omega,by go_num,?_,H4⟩;rw [dF (ae HJ),pQ,<- bh];exact H3
       case measure=>simp [intOf];omega
     . obtain rfl:j=es.length:=by omega
       rw [aP (af _)] at vG;go_wp2_with fail;refine (wk es.length _ (by omega)).mono ?_;rintro e w3 ⟨rfl,rfl⟩;have Yv:=QN es.length (by omega);go_wp2;go_loopw [64] (λc w3=>∃j:Nat,j<=cs.length/\c=.int .i64 j/\Hid (Writer (K2 K w.heap.size wa.heap.size) w3 p (l++bitsOf es.length 8++gd k es++jJ es (cs.take j)))/\Hid (aQ (K2 K w.heap.size wa.heap.size) wa w3)) (λc _=>cs.length - (intOf c).toNat)
       case atStart=>exact ⟨0,aN _,rfl,by simpa [jJ,Hid] using ae vG,um⟩
       case round=>
        obtain ⟨j,hj,rfl,Gq,Bi⟩:=hrel;by_cases hjl:j<cs.length
        . have Zh:(j:Int)<(cs.length:Int):=by omega
          obtain rfl:=ha (by omega);obtain ⟨c,Yx⟩:∃c,cs[j]?=some c:=⟨cs[j],ah hjl⟩;obtain ⟨c0,c1,c2⟩:=(ae NS).kept (ae Bi) (.inl (hK (by omega))) j c Yx;have ph:b<wr.heap.size:=aX _ _ c0;have hmc:=ae HO c (aG Yx);have yG:=ae Lw c (aG Yx);have jM:=((ae HDK).2 c hmc).2 yG;have QP:=zO yG;have Vp:=hide jM;have HJ:=hide Yx;have Vm:=hide (zM c hmc);have agN:=hide ((GL (ae R4) ((ae Bi).block (w.heap.size+1) (.inr ⟨by omega,by omega⟩))).alloc (.cells #[.bool c.null,.int .i64 c.n,.string c.s] 214));have hle:=pU k es (λd hd=>ae HME d hd);have Vq:=sE es (cs.take j);rw [bV] at Vq;have Zi:min j cs.length*pw es.length<=64*8:=mO (by omega) (by omega);have UE:Hid ((jJ es (cs.take j)).length<=512):=by rw [Vq];exact Zi
          clear jM Yx yG hmc ha hK Vq Zi;generalize hq:place es c=q at *;have HQ:=hide hq;clear hq;go_wp2_with (first|(at_lookup;refine wpList_lookup_own_int _ rfl _ _ 414 rfl 214 3 .i64 Tryz.DH Tryz.underlying414 Tryz.underlying3 (Tryz.Vl _) (w.heap.size+1) cs.length _ rfl (ae agN) _ _ rfl (ae Vm) ?_;intro q' acU hwc;rw [ae Vp] at acU;obtain rfl:(q:Int)=q':=by simpa using acU)|fail);clear acU hwc;refine (jT _ p _ _ _ _ ((ae Gq).alloc _) (by omega) (by omega) (by omega) (by have:=ae UE;simp only [List.length_append,bk,Int.toNat_natCast];omega)).mono ?_;rintro e w4 ⟨rfl,h3,h4⟩;rw [aZ,aZ] at h3;have H3:=hide h3;have H4:=hide (((ae Bi).alloc (ae Gq).old _).trans h4);clear h3 h4 hle c0 c1 c2;go_wp2;go_roundw
          case rel=>
           refine ⟨j+1,by omega,by go_num,?_,H4⟩;rw [dF (ae HJ),v7,ae HQ,<- bh];exact H3
          case measure=>simp [intOf];omega
        . obtain rfl:j=cs.length:=by omega
          rw [aP (af _)] at Gq;go_wp2;go_end0;refine ⟨rfl,?_,(ae HK0).trans ((ae Bi).mono (λ_ h=>.inl h))⟩;rw [ae HE];have:=(ae Gq).less (K':=K) (λ_ h=>.inl h);simpa only [List.append_assoc] using this
end S
end
namespace S
def ec (cE:Bool)(k least:Int)(width:Nat)(c:Cl):List Bool:=
 (if cE then [c.null] else [])++(if c.null then [] else if k=1 then bitsOf c.s.size 4++gB 7 c.s.data.toList else bitsOf (c.n - least).toNat width)
def dT (cE:Bool)(k least:Int)(width:Nat)(cs:List Cl):List Bool:=cs.flatMap (ec cE k least width)
theorem gD (cE:Bool)(k least:Int)(width:Nat)(cs:List Cl)(c:Cl):dT cE k least width (cs++[c])=dT cE k least width cs++ec cE k least width c:=by
 simp [dT,List.flatMap_append]
theorem GN (cE:Bool)(k least:Int)(width:Nat)(c:Cl)(hw:width<=64)(hs:c.s.size<=12):(ec cE k least width c).length<=89:=by
 unfold ec;rw [au];have h1:(if cE then [c.null] else []).length<=1:=by split<;>simp
 have h2:(if c.null then [] else if k=1 then bitsOf c.s.size 4++gB 7 c.s.data.toList else bitsOf (c.n - least).toNat width).length<=88:=by
  split
  . simp
  . split
    . simp only [List.length_append,bk,ku,eU];omega
    . rw [bk];omega
 omega
theorem qW (cE:Bool)(k least:Int)(width:Nat)(cs:List Cl)(hw:width<=64)(hs:∀c∈cs,c.s.size<=12):(dT cE k least width cs).length<=89*cs.length:=by
 induction cs with
 |nil=>simp [dT]
 |cons c r ih=>
   have e:dT cE k least width (c::r)=ec cE k least width c++dT cE k least width r:=rfl;have h1:=GN cE k least width c hw (hs c (by simp));have h2:=ih (λd hd=>hs d (by simp [hd]));rw [e,au,aY];omega
def ur (k:Int)(cs:List Cl):List Bool:=
 [cs.any λc=>c.null]++(if k=1 then [] else nC (leastOf (dr cs))++bitsOf (bitLen (lW (dr cs))) 7)++dT (cs.any λc=>c.null) k (leastOf (dr cs)) (bitLen (lW (dr cs))) cs
theorem Lx {cs:List Cl}{c:Cl}(h:c∈cs)(hn:c.null=false):c.n∈dr cs:=by
 simp only [dr,List.mem_map,List.mem_filter];exact ⟨c,⟨h,by simp [hn]⟩,rfl⟩
theorem GQ (K:Nat->Prop)(p:Nat)(l:List Bool)(k:Int)(cs:List Cl)(a:Option Addr)(b off cap:Nat)(w:World)(hw:Writer K w p l)
 (ha:0<cs.length->a=some ⟨b,off,none⟩) (hc:gT w b off cs) (hK:0<cs.length->K b) (kW:∀c∈cs,vY c) (hlen:cs.length<=64) (hb:l.length<=1000) :
 Calls Tryz.prog 305 #[.agg #[],.pointer (some ⟨p,0,none⟩),.int .i64 k,.slice a cs.length cap] w λe w'=>e=.returned (.tuple #[])/\Writer K w' p (l++ur k cs)/\aQ K w w':=by
 have Yy:=aQ.nP (bP w (.cells #[] 285) none) hw.old;have Ev:gT (w.alloc (.cells #[] 285)) b off cs:=by
  intro i c hi;exact hc.kept Yy (hK (by have:=(ak.1 hi).1;omega)) i c hi
 have HN0:=hide (Ll cs a b off cap (w.alloc (.cells #[] 285)) ha Ev (by omega));have HE:=hide (show ur k cs=[cs.any λc=>c.null]++(if k=1 then [] else nC (leastOf (dr cs))++bitsOf (bitLen (lW (dr cs))) 7)++dT (cs.any λc=>c.null) k (leastOf (dr cs)) (bitLen (lW (dr cs))) cs from rfl);have El:=xo (λc h=>(kW c h).1);have hli:=qU El;have DI:=lu (DG El);have yH:∀c∈cs,c.null=false->IntKind.u64.wrap (IntKind.u64.wrap c.n - IntKind.u64.wrap (leastOf (dr cs)))=(((c.n - leastOf (dr cs)).toNat:Nat):Int)/\(c.n - leastOf (dr cs)).toNat<18446744073709551616:=by
  intro c h hn;have h1:=Ei (Lx h hn);refine ⟨Lp (kW c h).1 hli h1,?_⟩;have h2:=(kW c h).1;unfold bZ at h2 hli;omega
 have aby:∀c∈cs,(cs.any λc=>c.null)=false->c.null=false:=by
  intro c h hn;have:=kJ.1 hn c h;simpa using this
 have HFR:=λ(w':World) (JI:gT w' b off cs)=>hide (Lq cs a b off cap w' ha JI (by omega) (λc h=>(kW c h).1));generalize acV:(cs.any λc=>c.null)=cE at *;generalize leastOf (dr cs)=least at *;generalize bitLen (lW (dr cs))=width at *;have HC:=hide hc;have HO:=hide kW;have HW0:=hide (hw.alloc (.cells #[] 285));have HKP:=hide Yy;have HLI:=hide hli;have abA:=hide yH;have abB:=hide aby
 have agO:=hide HFR;clear hc kW hw Yy Ev El hli yH aby acV HFR;go_enter Tryz.func305,Tryz.ntmps305;go_wp2_with fail;refine (ae HN0).mono ?_;rintro e w1 ⟨rfl,h1⟩;have C5:=gA h1;have xX:=hide ((ae HW0).sW C5);have vH:=hide ((ae HKP).trans (aQ.nP C5 (ae HW0).old));clear h1 C5 HN0;go_wp2_with fail;refine (vW K p l cE _ (ae xX) (by omega)).mono ?_;rintro e w2 ⟨rfl,h1,h2⟩;have vG:=hide h1;have um:=hide ((ae vH).trans h2);have lL:gT w2 b off cs:=by
  intro i c hi;exact (ae HC).kept (ae um) (hK (by have:=(ak.1 hi).1;omega)) i c hi
 have HF:=ae agO w2 lL;clear h1 h2 lL agO;go_wp2_with fail;refine (ae HF).mono ?_;rintro e w3 ⟨rfl,h1⟩;have NT:=gA h1;have Gq:=hide ((ae vG).sW NT);have Bi:=hide ((ae um).trans (aQ.nP NT (ae vG).old));clear h1 NT HF;by_cases h1:k=1
 . have vH:=hide h1
   have t1:(k != 1)=false:=by simp [h1]
   have t2:(k==1)=true:=by simp [h1]
   clear h1;have HWS:=Gq;have ym:=Bi;go_wp2;go_loopw [34] (λcv wr=>∃i:Nat,i<=cs.length/\cv=.int .i64 i/\Hid (Writer K wr p (l++[cE]++dT cE k least width (cs.take i)))/\Hid (aQ K w wr)) (λcv _=>cs.length - (intOf cv).toNat)
   case atStart=>exact ⟨0,aN _,rfl,by simpa [dT,Hid] using ae HWS,ym⟩
   case round=>
    obtain ⟨i,hi,rfl,R5,um⟩:=hrel;by_cases cF:i<cs.length
    . have jI:(i:Int)<(cs.length:Int):=by omega
      obtain ⟨c,kM⟩:∃c,cs[i]?=some c:=⟨cs[i],ah cF⟩;obtain rfl:=ha (by omega);obtain ⟨c0,c1,c2⟩:=(ae HC).kept (ae um) (hK (by omega)) i c kM;have ph:b<wr.heap.size:=aX _ _ c0;have sS:=aG kM;have DJ:=(ae HO c sS).2;have hle:=qW cE k least width (cs.take i) DI (λd hd=>(ae HO d (fx hd)).2);rw [bV] at hle;have q0:(wr.alloc (.cells #[.bool c.null,.int .i64 c.n,.string c.s] 214)).cell? ⟨wr.heap.size,0,none⟩=some (.bool c.null):=by rw [bK _ _ _ _ rfl];rfl
      have q1:(wr.alloc (.cells #[.bool c.null,.int .i64 c.n,.string c.s] 214)).cell? ⟨wr.heap.size,1,none⟩=some (.int .i64 c.n):=by rw [bK _ _ _ _ rfl];rfl
      have q2:(wr.alloc (.cells #[.bool c.null,.int .i64 c.n,.string c.s] 214)).cell? ⟨wr.heap.size,2,none⟩=some (.string c.s):=by rw [bK _ _ _ _ rfl];rfl
      have HA:=hide ((ae R5).also (K':=K2 K wr.heap.size (wr.heap.size+1)) (bP wr (.cells #[.bool c.null,.int .i64 c.n,.string c.s] 214) none) (λj hj=>hj.elim Or.inl (λh=>Or.inr ⟨h.1,by simpa using h.2⟩)));have HI:=hide kM;have Io:=ae abA c sS;have Vi:=ae abB c sS;clear kM ha sS
      cases cE
      . have hn:=Vi rfl
        have Vr:=hide (Io hn).1;have hsl:=(Io hn).2;have HN:=hide hn;rw [hn] at c0 q0 q1 q2 HA;clear Io Vi hn;have H1:=HA;have H2:=hide ((ae um).alloc (ae R5).old (.cells #[.bool false,.int .i64 c.n,.string c.s] 214));go_wp2_with fail;refine (jT _ p _ _ _ _ (ae H1) (by omega) (by omega) (by omega) (by simp only [List.length_append,List.length_cons,List.length_nil];rw [show Int.toNat 4=4 from rfl];omega)).mono ?_;rintro e w2 ⟨rfl,h3,h4⟩;have j2:=(h4.cell (p:=⟨wr.heap.size,2,none⟩) (Or.inr ⟨af _,dI _⟩)).trans q2;have H3:=hide h3;have H4:=hide ((ae H2).trans (h4.mono (λ_ h=>Or.inl h)));clear h3 h4;go_wp2_with fail;refine (sD _ p _ c.s _ _ (ae H3) (by omega) (by omega) (by omega) (by simp only [List.length_append,List.length_cons,List.length_nil,bk];rw [show Int.toNat 4=4 from rfl];omega)).mono ?_;rintro e w3 ⟨rfl,h5,h6⟩;have H5:=hide h5;have H6:=hide ((ae H4).trans (h6.mono (λ_ h=>Or.inl h)));clear h5 h6;go_wp2;go_roundw
        case rel=>
         refine ⟨i+1,by omega,by go_num,hide ?_,H6⟩;rw [dF (ae HI),gD,<- bh];have h5:=(ae H5).less (K':=K) (λ_ h=>Or.inl h);rw [show ec false k least width c=bitsOf c.s.size 4++gB 7 c.s.data.toList from by unfold ec;rw [ae HN,aA (by simp),aA (by simp),aH (ae vH)];rfl];simpa only [List.append_assoc,show Int.toNat 4=4 from rfl,show Int.toNat 7=7 from rfl,Int.toNat_natCast] using h5
        case measure=>simp [intOf];omega
      . cases hn:c.null
        . have Vr:=hide (Io hn).1
          have hsl:=(Io hn).2;have HN:=hide hn;rw [hn] at c0 q0 q1 q2 HA;clear Io Vi hn;go_wp2_with fail;refine (vW _ p _ _ _ (ae HA) (by simp only [List.length_append,List.length_cons,List.length_nil];omega)).mono ?_;rintro e w1 ⟨rfl,h1,h2⟩;have k0:=(h2.cell (p:=⟨wr.heap.size,0,none⟩) (Or.inr ⟨af _,dI _⟩)).trans q0;have k1:=(h2.cell (p:=⟨wr.heap.size,1,none⟩) (Or.inr ⟨af _,dI _⟩)).trans q1;have k2:=(h2.cell (p:=⟨wr.heap.size,2,none⟩) (Or.inr ⟨af _,dI _⟩)).trans q2;have H1:=hide h1;have H2:=hide (((ae um).alloc (ae R5).old _).trans (h2.mono (λ_ h=>Or.inl h)));clear h1 h2;go_wp2_with fail;refine (jT _ p _ _ _ _ (ae H1) (by omega) (by omega) (by omega) (by simp only [List.length_append,List.length_cons,List.length_nil];rw [show Int.toNat 4=4 from rfl];omega)).mono ?_;rintro e w2 ⟨rfl,h3,h4⟩;have j2:=(h4.cell (p:=⟨wr.heap.size,2,none⟩) (Or.inr ⟨af _,dI _⟩)).trans k2;have H3:=hide h3;have H4:=hide ((ae H2).trans (h4.mono (λ_ h=>Or.inl h)));clear h3 h4;go_wp2_with fail;refine (sD _ p _ c.s _ _ (ae H3) (by omega) (by omega) (by omega) (by simp only [List.length_append,List.length_cons,List.length_nil,bk];rw [show Int.toNat 4=4 from rfl];omega)).mono ?_;rintro e w3 ⟨rfl,h5,h6⟩;have H5:=hide h5;have H6:=hide ((ae H4).trans (h6.mono (λ_ h=>Or.inl h)));clear h5 h6;go_wp2;go_roundw
          case rel=>
           refine ⟨i+1,by omega,by go_num,hide ?_,H6⟩;rw [dF (ae HI),gD,<- bh];have h5:=(ae H5).less (K':=K) (λ_ h=>Or.inl h);rw [show ec true k least width c=[false]++(bitsOf c.s.size 4++gB 7 c.s.data.toList) from by unfold ec;rw [ae HN,aH rfl,aA (by simp),aH (ae vH)]];simpa only [List.append_assoc,show Int.toNat 4=4 from rfl,show Int.toNat 7=7 from rfl,Int.toNat_natCast] using h5
          case measure=>simp [intOf];omega
        . have HN:=hide hn
          rw [hn] at c0 q0 q1 q2 HA;clear Io Vi hn;go_wp2_with fail;refine (vW _ p _ _ _ (ae HA) (by simp only [List.length_append,List.length_cons,List.length_nil];omega)).mono ?_;rintro e w1 ⟨rfl,h1,h2⟩;have k0:=(h2.cell (p:=⟨wr.heap.size,0,none⟩) (Or.inr ⟨af _,dI _⟩)).trans q0;have k1:=(h2.cell (p:=⟨wr.heap.size,1,none⟩) (Or.inr ⟨af _,dI _⟩)).trans q1;have k2:=(h2.cell (p:=⟨wr.heap.size,2,none⟩) (Or.inr ⟨af _,dI _⟩)).trans q2;have H1:=hide h1;have H2:=hide (((ae um).alloc (ae R5).old _).trans (h2.mono (λ_ h=>Or.inl h)));clear h1 h2;have H5:=H1;have H6:=H2;go_wp2;go_roundw
          case rel=>
           refine ⟨i+1,by omega,by go_num,hide ?_,H6⟩;rw [dF (ae HI),gD,<- bh];have h5:=(ae H5).less (K':=K) (λ_ h=>Or.inl h);rw [show ec true k least width c=[true] from by unfold ec;rw [ae HN,aH rfl,aH rfl];rfl];exact h5
          case measure=>simp [intOf];omega
    . obtain rfl:i=cs.length:=by omega
      go_wp2;go_end0;refine ⟨rfl,?_,ae um⟩;have h5:=ae R5;rw [aP (af _)] at h5;rw [ae HE,aH (ae vH)];simpa only [List.append_assoc,List.nil_append] using h5
 . have vH:=hide h1
   have t1:(k != 1)=true:=by simp [h1]
   have t2:(k==1)=false:=by simp [h1]
   clear h1;go_wp2_with fail;refine (yi K p _ least _ (ae Gq) (ae HLI) (by simp only [List.length_append,List.length_cons,List.length_nil];omega)).mono ?_;rintro e w4 ⟨rfl,h1,h2⟩;have K5:=hide h1;have Cq:=hide ((ae Bi).trans h2);have Ip:(nC least).length<=72:=by rw [sC];have:=lu (vV (ae HLI));omega
   clear h1 h2;go_wp2_with fail;refine (jT K p _ _ _ _ (ae K5) (by omega) (by omega) (by omega) (by simp only [List.length_append,List.length_cons,List.length_nil];rw [show Int.toNat 7=7 from rfl];omega)).mono ?_;rintro e w5 ⟨rfl,h1,h2⟩;have HWS:=hide (show Writer K w5 p (l++[cE]++(nC least++bitsOf width 7)) from by simpa only [List.append_assoc,Int.toNat_natCast,show Int.toNat 7=7 from rfl] using h1);have ym:=hide ((ae Cq).trans h2);clear h1 h2;go_wp2;go_loopw [34] (λcv wr=>∃i:Nat,i<=cs.length/\cv=.int .i64 i/\Hid (Writer K wr p (l++[cE]++(nC least++bitsOf width 7)++dT cE k least width (cs.take i)))/\Hid (aQ K w wr)) (λcv _=>cs.length - (intOf cv).toNat)
   case atStart=>exact ⟨0,aN _,rfl,by simpa [dT,Hid] using ae HWS,ym⟩
   case round=>
    obtain ⟨i,hi,rfl,R5,um⟩:=hrel;by_cases cF:i<cs.length
    . have jI:(i:Int)<(cs.length:Int):=by omega
      obtain ⟨c,kM⟩:∃c,cs[i]?=some c:=⟨cs[i],ah cF⟩;obtain rfl:=ha (by omega);obtain ⟨c0,c1,c2⟩:=(ae HC).kept (ae um) (hK (by omega)) i c kM;have ph:b<wr.heap.size:=aX _ _ c0;have sS:=aG kM;have DJ:=(ae HO c sS).2;have hle:=qW cE k least width (cs.take i) DI (λd hd=>(ae HO d (fx hd)).2);rw [bV] at hle;have q0:(wr.alloc (.cells #[.bool c.null,.int .i64 c.n,.string c.s] 214)).cell? ⟨wr.heap.size,0,none⟩=some (.bool c.null):=by rw [bK _ _ _ _ rfl];rfl
      have q1:(wr.alloc (.cells #[.bool c.null,.int .i64 c.n,.string c.s] 214)).cell? ⟨wr.heap.size,1,none⟩=some (.int .i64 c.n):=by rw [bK _ _ _ _ rfl];rfl
      have q2:(wr.alloc (.cells #[.bool c.null,.int .i64 c.n,.string c.s] 214)).cell? ⟨wr.heap.size,2,none⟩=some (.string c.s):=by rw [bK _ _ _ _ rfl];rfl
      have HA:=hide ((ae R5).also (K':=K2 K wr.heap.size (wr.heap.size+1)) (bP wr (.cells #[.bool c.null,.int .i64 c.n,.string c.s] 214) none) (λj hj=>hj.elim Or.inl (λh=>Or.inr ⟨h.1,by simpa using h.2⟩)));have HI:=hide kM;have Io:=ae abA c sS;have Vi:=ae abB c sS;clear kM ha sS
      cases cE
      . have hn:=Vi rfl
        have Vr:=hide (Io hn).1;have hsl:=(Io hn).2;have HN:=hide hn;rw [hn] at c0 q0 q1 q2 HA;clear Io Vi hn;have H1:=HA;have H2:=hide ((ae um).alloc (ae R5).old (.cells #[.bool false,.int .i64 c.n,.string c.s] 214));go_wp2_with fail;rw [ae Vr];refine (jT _ p _ _ _ _ (ae H1) (by omega) (by omega) (by omega) (by simp only [List.length_append,List.length_cons,List.length_nil,bk,Int.toNat_natCast];omega)).mono ?_;rintro e w3 ⟨rfl,h5,h6⟩;have H5:=hide h5;have H6:=hide ((ae H2).trans (h6.mono (λ_ h=>Or.inl h)));clear h5 h6;go_wp2;go_roundw
        case rel=>
         refine ⟨i+1,by omega,by go_num,hide ?_,H6⟩;rw [dF (ae HI),gD,<- bh];have h5:=(ae H5).less (K':=K) (λ_ h=>Or.inl h);rw [show ec false k least width c=bitsOf (c.n - least).toNat width from by unfold ec;rw [ae HN,aA (by simp),aA (by simp),aA (ae vH)];rfl];simpa only [List.append_assoc,Int.toNat_natCast] using h5
        case measure=>simp [intOf];omega
      . cases hn:c.null
        . have Vr:=hide (Io hn).1
          have hsl:=(Io hn).2;have HN:=hide hn;rw [hn] at c0 q0 q1 q2 HA;clear Io Vi hn;go_wp2_with fail;refine (vW _ p _ _ _ (ae HA) (by simp only [List.length_append,List.length_cons,List.length_nil,bk];omega)).mono ?_;rintro e w1 ⟨rfl,h1,h2⟩;have k0:=(h2.cell (p:=⟨wr.heap.size,0,none⟩) (Or.inr ⟨af _,dI _⟩)).trans q0;have k1:=(h2.cell (p:=⟨wr.heap.size,1,none⟩) (Or.inr ⟨af _,dI _⟩)).trans q1;have k2:=(h2.cell (p:=⟨wr.heap.size,2,none⟩) (Or.inr ⟨af _,dI _⟩)).trans q2;have H1:=hide h1;have H2:=hide (((ae um).alloc (ae R5).old _).trans (h2.mono (λ_ h=>Or.inl h)));clear h1 h2;go_wp2_with fail;rw [ae Vr];refine (jT _ p _ _ _ _ (ae H1) (by omega) (by omega) (by omega) (by simp only [List.length_append,List.length_cons,List.length_nil,bk,Int.toNat_natCast];omega)).mono ?_;rintro e w3 ⟨rfl,h5,h6⟩;have H5:=hide h5;have H6:=hide ((ae H2).trans (h6.mono (λ_ h=>Or.inl h)));clear h5 h6;go_wp2;go_roundw
          case rel=>
           refine ⟨i+1,by omega,by go_num,hide ?_,H6⟩;rw [dF (ae HI),gD,<- bh];have h5:=(ae H5).less (K':=K) (λ_ h=>Or.inl h);rw [show ec true k least width c=[false]++bitsOf (c.n - least).toNat width from by unfold ec;rw [ae HN,aH rfl,aA (by simp),aA (ae vH)]];simpa only [List.append_assoc,Int.toNat_natCast] using h5
          case measure=>simp [intOf];omega
        . have HN:=hide hn
          rw [hn] at c0 q0 q1 q2 HA;clear Io Vi hn;go_wp2_with fail;refine (vW _ p _ _ _ (ae HA) (by simp only [List.length_append,List.length_cons,List.length_nil,bk];omega)).mono ?_;rintro e w1 ⟨rfl,h1,h2⟩;have k0:=(h2.cell (p:=⟨wr.heap.size,0,none⟩) (Or.inr ⟨af _,dI _⟩)).trans q0;have k1:=(h2.cell (p:=⟨wr.heap.size,1,none⟩) (Or.inr ⟨af _,dI _⟩)).trans q1;have k2:=(h2.cell (p:=⟨wr.heap.size,2,none⟩) (Or.inr ⟨af _,dI _⟩)).trans q2;have H1:=hide h1;have H2:=hide (((ae um).alloc (ae R5).old _).trans (h2.mono (λ_ h=>Or.inl h)));clear h1 h2;have H5:=H1;have H6:=H2;go_wp2;go_roundw
          case rel=>
           refine ⟨i+1,by omega,by go_num,hide ?_,H6⟩;rw [dF (ae HI),gD,<- bh];have h5:=(ae H5).less (K':=K) (λ_ h=>Or.inl h);rw [show ec true k least width c=[true] from by unfold ec;rw [ae HN,aH rfl,aH rfl];rfl];exact h5
          case measure=>simp [intOf];omega
    . obtain rfl:i=cs.length:=by omega
      go_wp2;go_end0;refine ⟨rfl,?_,ae um⟩;have h5:=ae R5;rw [aP (af _)] at h5;rw [ae HE,aA (ae vH)];simpa only [List.append_assoc,List.nil_append] using h5
end S
namespace S
theorem sF (p:Int)(w:World):Calls Tryz.prog 37 #[.int .i64 p] w λe w'=>e=.returned (.bool (decide (0<=p/\p<=3)))/\w=w':=by
 go_enter Tryz.func37,Tryz.ntmps37;go_wp2
 all_goals (go_ret;refine ⟨aU Ending.returned (aU Value.bool ?_),rfl⟩)
 all_goals first|(simp_all;done)|(simp_all;omega)
theorem Ew (p:Int)(w:World):Calls Tryz.prog 155 #[.int .i64 p] w λe w'=>e=.returned (.bool (decide (0<=p/\p<=2)))/\w=w':=by
 go_enter Tryz.func155,Tryz.ntmps155;go_wp2
 all_goals (go_ret;refine ⟨aU Ending.returned (aU Value.bool ?_),rfl⟩)
 all_goals first|(simp_all;done)|(simp_all;omega)
theorem zP (p:Int)(w:World):Calls Tryz.prog 139 #[.int .i64 p] w λe w'=>e=.returned (.iface (if p=1 then 283 else if p=2 then 284 else if p=3 then 285 else 286) (.agg #[]))/\w=w':=by
 go_enter Tryz.func139,Tryz.ntmps139;go_wp2
 all_goals (go_ret;refine ⟨?_,rfl⟩)
 all_goals simp_all
def strOf (bs:List Nat):ByteArray:=⟨(bs.map UInt8.ofNat).toArray⟩
def body (p k:Int)(cs:List Cl):List Bool:=if p=1 then mQ k cs else if p=2 then uq k cs else if p=3 then ur k cs else gd k cs
def gi (p k:Int)(cs:List Cl):List Bool:=bitsOf p.toNat 8++bitsOf k.toNat 8++bitsOf cs.length 8++body p k cs
theorem Ov (w:World):Writer (·<w.heap.size) (w.alloc (.cells #[.slice none 0 0,.int .i64 0] 290)) w.heap.size []:=by
 refine ⟨.slice none 0 0,[],Lays.nil,?_,?_,?_,?_,ia _ _ _ _,?_,?_,?_,?_⟩
 . rw [bK _ _ _ _ rfl];rfl
 . rw [bK _ _ _ _ rfl];rfl
 . exact ib _ _ _ _ rfl
 . exact ib _ _ _ _ rfl
 . simp [Value.ownBlock]
 . simp
 . intro g hg;simp [Value.ownBlock] at hg
 . intro k hk;simp;omega
theorem fold_push (ns:List Nat):∀(acc:ByteArray),(ns.map (λ(n:Nat)=>(n:Int))).foldl (λr n=>r.push (UInt8.ofNat n.toNat)) acc=⟨acc.data++(ns.map UInt8.ofNat).toArray⟩:=by
 induction ns with
 |nil=>intro acc;simp
 |cons n r ih=>
   intro acc;rw [nV,iA,ih];congr 1;simp [ByteArray.push]
theorem DK {K:Nat->Prop}{w:World}{p g cap:Nat}{bs:List Nat}{l:List Bool}(h:Wr K w p (.slice (some ⟨g,0,none⟩) bs.length cap) bs l):(convert 203 9 (.slice (some ⟨g,0,none⟩) bs.length cap)).run Tryz.prog w=.ok (.string (strOf bs)) w:=by
 rw [run_convert_bytes_string w 203 9 5 _ _ _ Tryz.underlying203 Tryz.underlying5 Tryz.underlying9];have hl:(loadCells ⟨g,0,none⟩ bs.length).run Tryz.prog w=.ok ((bs.map (λ(n:Nat)=>(n:Int))).map (Value.int .u8)).toArray w:=by
  have:=run_loadCells_list (P:=Tryz.prog) w ⟨g,0,none⟩ (Bh bs) (h.own.cells rfl);rw [show (Bh bs).length=bs.length by simp [Bh]] at this;rw [this];simp [Bh,Function.comp_def]
 rw [run_bytesToString w _ _ _ _ hl,fold_push];simp [strOf]
def fO (P:Program)(t:TypeId)(i:Nat):String:=match P.underlying t with|some (.interface ms)=>(ms.toList.map Prod.fst).getD i default|_=>default
theorem Tryz.Zj (w:World):(method 519 283 (.agg #[]) (fO Tryz.prog 265 1)).run Tryz.prog w=.ok (292,.agg #[]) w:=by kernel_rfl
theorem Tryz.Zk (w:World):(method 519 284 (.agg #[]) (fO Tryz.prog 265 1)).run Tryz.prog w=.ok (302,.agg #[]) w:=by kernel_rfl
theorem Tryz.Zl (w:World):(method 519 285 (.agg #[]) (fO Tryz.prog 265 1)).run Tryz.prog w=.ok (305,.agg #[]) w:=by kernel_rfl
theorem Tryz.Zm (w:World):(method 519 286 (.agg #[]) (fO Tryz.prog 265 1)).run Tryz.prog w=.ok (310,.agg #[]) w:=by kernel_rfl
theorem sZ (p k:Int)(cs:List Cl)(a:Option Addr)(b off cap:Nat)(w:World)(ha:0<cs.length->a=some ⟨b,off,none⟩)(hc:gT w b off cs)(GH:cs.length<=cap)(hlen:cs.length<=64)(hn:∀c∈cs,bZ c.n)
 (hs:∀c∈cs,c.s.size<=140737488351232) (NU:0<=p) (QR:p<=3) (QK:0<=k) (nN:k<=2) (kT:cs.all (okB k)=true) :
 Calls Tryz.prog 140 #[.int .i64 p,.int .i64 k,.slice a cs.length cap] w λe w'=>(∃bs,Lays bs (gi p k cs)/\e=.returned (.tuple #[.string (strOf bs),.int .i64 0]))/\Below w.heap.size w w':=by
 have Vj:(cs.length:Int)<=64:=by omega
 have H1:=hide (yl k cs a b off cap w ha hc (by omega) hs);rw [kT] at H1;have hpt:decide (0<=p/\p<=3)=true:=by simp;omega
 have hkt:decide (0<=k/\k<=2)=true:=by simp;omega
 have HP:=hide (sF p w);have HKK:=hide (Ew k w);rw [hpt] at HP;rw [hkt] at HKK;clear hpt hkt;have abC:∀c∈cs,vY c:=λc h=>Bq (vZ (hn c h) (gH.1 kT c h));have HM:=hide abC;have HC:=hide hc;clear abC hc kT hn hs;go_enter Tryz.func140,Tryz.ntmps140;go_wp2_with fail;refine (ae HP).mono ?_;rintro e w1 ⟨rfl,rfl⟩;go_wp2_with fail;refine (ae HKK).mono ?_;rintro e w1 ⟨rfl,rfl⟩;go_wp2_with fail;refine (ae H1).mono ?_;rintro e w1 ⟨rfl,h1⟩;have eI:=hide h1;clear h1 H1 HP HKK;go_wp2_with fail;refine (jT _ _ _ _ _ _ (Ov w1) (by omega) (by omega) (by omega) (by simp)).mono ?_;rintro e w2 ⟨rfl,h1,h2⟩;have vG:=hide h1;have um:=hide (((aQ.refl (·<w1.heap.size) w1).alloc (λ_ h=>h) _).trans h2);clear h1 h2;go_wp2_with fail;refine (jT _ _ _ _ _ _ (ae vG) (by omega) (by omega) (by omega) (by simp [bk])).mono ?_;rintro e w3 ⟨rfl,h1,h2⟩;have Gq:=hide h1;have Bi:=hide ((ae um).trans h2);clear h1 h2;go_wp2_with fail;refine (jT _ _ _ _ _ _ (ae Gq) (by omega) (by omega) (by omega) (by simp [bk])).mono ?_;rintro e w4 ⟨rfl,h1,h2⟩;have K5:=hide h1;have Cq:=hide ((ae Bi).trans h2);clear h1 h2;go_wp2_with fail;refine (zP p w4).mono ?_;rintro e w5 ⟨rfl,rfl⟩;have lL:gT w4 b off cs:=by
  intro i c hi;obtain ⟨h1,h2,h3⟩:=ae HC i c hi;have hb:b<w.heap.size:=aX _ _ h1;have hk:=(ae eI).trans ((ae Cq).below.mono (ae eI).size);exact ⟨(hk.cell (p:=⟨b,_,none⟩) hb).trans h1,(hk.cell (p:=⟨b,_,none⟩) hb).trans h2,(hk.cell (p:=⟨b,_,none⟩) hb).trans h3⟩
 have QM:0<cs.length->b<w1.heap.size:=by
  intro h;have h0:=(ae HC 0 cs[0] (ah h)).1;have hb:b<w.heap.size:=aX _ _ h0;exact aF hb (ae eI).size
 have Ow:=hide lL;have HKB:=hide QM;have Gr:=hide ha;have hll:([]++bitsOf p.toNat (Int.toNat 8)++bitsOf k.toNat (Int.toNat 8)++bitsOf (cs.length:Int).toNat (Int.toNat 8)).length<=1000:=by
  simp only [List.length_append,bk,List.length_nil];rw [show Int.toNat 8=8 from rfl];omega
 have DL:=hide hll;clear lL QM ha hll;by_cases p1:p=1
 . rw [aH p1]
   have P1:=hide p1;clear p1;have hm:=Tryz.Zj;simp [fO,Tryz.underlying265] at hm;go_wp2_with fail;refine (GF _ _ _ k cs a b off cap w4 (ae K5) (ae Gr) (ae Ow) (ae HKB) (ae HM) hlen GH (ae DL)).mono ?_;rintro e w6 ⟨rfl,h1,h2⟩;have sT:Writer (·<w1.heap.size) w6 w1.heap.size (gi p k cs):=by
    have e:gi p k cs=[]++bitsOf p.toNat (Int.toNat 8)++bitsOf k.toNat (Int.toNat 8)++bitsOf (cs.length:Int).toNat (Int.toNat 8)++mQ k cs:=by
     unfold gi body;rw [aH (ae P1)];rw [aZ];rfl
    rw [e];exact h1
   have Zn:=hide ((ae eI).trans (((ae Cq).trans h2).below.mono (ae eI).size));obtain ⟨v,bs,uf⟩:=sT;have fN:0<bs.length:=by rw [uf.lays.len];unfold gi;simp only [List.length_append,bk];omega
   obtain ⟨g,vF,rfl⟩:=uf.slice fN;have ht:=DK uf;have hsl:=uf.sl;have HL:=hide uf.lays;clear h1 h2 uf vG Gq K5;go_wp2;go_ret2;exact ⟨⟨bs,ae HL,rfl⟩,ae Zn⟩
 . rw [aA p1]
   have P1:=hide p1;clear p1;by_cases p2:p=2
   . rw [aH p2]
     have P2:=hide p2;clear p2;have hm:=Tryz.Zk;simp [fO,Tryz.underlying265] at hm;go_wp2_with fail;refine (GM _ _ _ k cs a b off cap w4 (ae K5) (ae Gr) (ae Ow) (ae HKB) (ae HM) hlen (ae DL)).mono ?_;rintro e w6 ⟨rfl,h1,h2⟩;have sT:Writer (·<w1.heap.size) w6 w1.heap.size (gi p k cs):=by
      have e:gi p k cs=[]++bitsOf p.toNat (Int.toNat 8)++bitsOf k.toNat (Int.toNat 8)++bitsOf (cs.length:Int).toNat (Int.toNat 8)++uq k cs:=by
       unfold gi body;rw [aA (ae P1),aH (ae P2)];rw [aZ];rfl
      rw [e];exact h1
     have Zn:=hide ((ae eI).trans (((ae Cq).trans h2).below.mono (ae eI).size));obtain ⟨v,bs,uf⟩:=sT;have fN:0<bs.length:=by rw [uf.lays.len];unfold gi;simp only [List.length_append,bk];omega
     obtain ⟨g,vF,rfl⟩:=uf.slice fN;have ht:=DK uf;have hsl:=uf.sl;have HL:=hide uf.lays;clear h1 h2 uf vG Gq K5;go_wp2;go_ret2;exact ⟨⟨bs,ae HL,rfl⟩,ae Zn⟩
   . rw [aA p2]
     have P2:=hide p2;clear p2;by_cases p3:p=3
     . rw [aH p3]
       have P3:=hide p3;clear p3;have hm:=Tryz.Zl;simp [fO,Tryz.underlying265] at hm;go_wp2_with fail;refine (GQ _ _ _ k cs a b off cap w4 (ae K5) (ae Gr) (ae Ow) (ae HKB) (ae HM) hlen (ae DL)).mono ?_;rintro e w6 ⟨rfl,h1,h2⟩;have sT:Writer (·<w1.heap.size) w6 w1.heap.size (gi p k cs):=by
        have e:gi p k cs=[]++bitsOf p.toNat (Int.toNat 8)++bitsOf k.toNat (Int.toNat 8)++bitsOf (cs.length:Int).toNat (Int.toNat 8)++ur k cs:=by
         unfold gi body;rw [aA (ae P1),aA (ae P2),aH (ae P3)];rw [aZ];rfl
        rw [e];exact h1
       have Zn:=hide ((ae eI).trans (((ae Cq).trans h2).below.mono (ae eI).size));obtain ⟨v,bs,uf⟩:=sT;have fN:0<bs.length:=by rw [uf.lays.len];unfold gi;simp only [List.length_append,bk];omega
       obtain ⟨g,vF,rfl⟩:=uf.slice fN;have ht:=DK uf;have hsl:=uf.sl;have HL:=hide uf.lays;clear h1 h2 uf vG Gq K5;go_wp2;go_ret2;exact ⟨⟨bs,ae HL,rfl⟩,ae Zn⟩
     . rw [aA p3]
       have P3:=hide p3;clear p3;have hm:=Tryz.Zm;simp [fO,Tryz.underlying265] at hm;go_wp2_with fail;refine (Ed _ _ _ k cs a b off cap w4 (ae K5) (ae Gr) (ae Ow) (ae HKB) (ae HM) hlen (ae DL)).mono ?_;rintro e w6 ⟨rfl,h1,h2⟩;have sT:Writer (·<w1.heap.size) w6 w1.heap.size (gi p k cs):=by
        have e:gi p k cs=[]++bitsOf p.toNat (Int.toNat 8)++bitsOf k.toNat (Int.toNat 8)++bitsOf (cs.length:Int).toNat (Int.toNat 8)++gd k cs:=by
         unfold gi body;rw [aA (ae P1),aA (ae P2),aA (ae P3)];rw [aZ];rfl
        rw [e];exact h1
       have Zn:=hide ((ae eI).trans (((ae Cq).trans h2).below.mono (ae eI).size));obtain ⟨v,bs,uf⟩:=sT;have fN:0<bs.length:=by rw [uf.lays.len];unfold gi;simp only [List.length_append,bk];omega
       obtain ⟨g,vF,rfl⟩:=uf.slice fN;have ht:=DK uf;have hsl:=uf.sl;have HL:=hide uf.lays;clear h1 h2 uf vG Gq K5;go_wp2;go_ret2;exact ⟨⟨bs,ae HL,rfl⟩,ae Zn⟩
end S
end Go.Proofs.YteniahoehoncjaaGreatDoor
