import Derived.Test.YteniahoehoncjaaGreatDoorQAJ
import Derived.Test.YteniahoehoncjaaGreatDoorQZZ
set_option maxHeartbeats 99999999
set_option maxRecDepth 100000
namespace Go.Proofs.YteniahoehoncjaaGreatDoor
open Go.RowKit
namespace S
theorem hide {p:Prop}(h:p):Hid p:=h
theorem ae {p:Prop}(h:Hid p):p:=h
def Bh (bs:List Nat):List Value:=bs.map λ(n:Nat)=>Value.int .u8 (n:Int)
structure aQ (K:Nat->Prop)(w w':World):Prop where
 os:w'.os=w.os
 tape:w'.tape=w.tape
 output:w'.output=w.output
 size:w.heap.size<=w'.heap.size
 block:∀k,K k->w'.heap[k]?=w.heap[k]?
theorem aQ.refl (K:Nat->Prop)(w:World):aQ K w w:=⟨rfl,rfl,rfl,af _,λ_ _=>rfl⟩
theorem aQ.trans {K:Nat->Prop}{a b c:World}(h:aQ K a b)(k:aQ K b c):aQ K a c:=
 ⟨k.os.trans h.os,k.tape.trans h.tape,k.output.trans h.output,aw h.size k.size,λi hi=>(k.block i hi).trans (h.block i hi)⟩
theorem aQ.mono {K K':Nat->Prop}{w w':World}(h:aQ K w w')(hK:∀k,K' k->K k):aQ K' w w':=⟨h.os,h.tape,h.output,h.size,λk hk=>h.block k (hK k hk)⟩
theorem aQ.drew {K:Nat->Prop}{a w:World}(h:aQ K a w):aQ K a w.drew:=⟨h.os,h.tape,h.output,h.size,h.block⟩
theorem aQ.alloc {K:Nat->Prop}{a w:World}(h:aQ K a w)(hK:∀k,K k->k<w.heap.size)(o:Obj):aQ K a (w.alloc o):=
 h.trans ⟨rfl,rfl,rfl,by simp,λk hk=>bA _ _ _ (hK k hk)⟩
theorem aQ.setCell {K:Nat->Prop}{a w:World}(h:aQ K a w){p:Addr}(hp:¬K p.block)(u:Value):aQ K a (w.setCell p u):=
 h.trans ⟨rfl,rfl,rfl,by simp [World.setCell],λk hk=>aD _ _ _ _ (λe=>hp (e ▸ hk))⟩
theorem aQ.grown {K:Nat->Prop}{a w w':World}{row:Option Nat}(h:aQ K a w)(hg:w.grownBy w' row)(hK:∀k,K k->k<w.heap.size)(hr:∀k,row=some k->¬K k):aQ K a w':=
 h.trans ⟨hg.os,hg.tape,hg.output,hg.size,λk hk=>hg.block k (hK k hk) (λe=>hr k e.symm hk)⟩
theorem aQ.cell {K:Nat->Prop}{w w':World}(h:aQ K w w'){p:Addr}(hp:K p.block):w'.cell? p=w.cell? p:=bJ (w:=w) (h.block p.block hp)
theorem aQ.frozen {K:Nat->Prop}{w w':World}(h:aQ K w w'){p:Addr}(hp:K p.block):w'.frozen? p=w.frozen? p:=bM (w:=w) (h.block p.block hp)
theorem aQ.below {B:Nat}{w w':World}(h:aQ (·<B) w w'):Below B w w':=⟨h.os,h.tape,h.output,h.size,h.block⟩
theorem aQ.vU {B:Nat}{w w':World}(h:Below B w w'):aQ (·<B) w w':=⟨h.os,h.tape,h.output,h.size,h.block⟩
theorem grownBy_setCell (w:World)(a:Addr)(u:Value):w.grownBy (w.setCell a u) (some a.block):=
 ⟨rfl,rfl,rfl,by simp [World.setCell],λk _ hk=>aD w a u k (λe=>hk (aU some e))⟩
theorem cL {w:World}{base rQ:Nat}{e:TypeId}{size:Nat}{v:Value}{n:Nat}{xs:List Value}(h:w.ownsRow base e size v n xs)(hb:rQ<=base):w.ownsRow rQ e size v n xs:=by
 refine ⟨h.1,?_⟩;rcases h.2 with h2|⟨g,cap,cur,hv,hg,r⟩
 . exact .inl h2
 . exact .inr ⟨g,cap,cur,hv,aw hb hg,r⟩
theorem cA {P:Program}(w:World){ops:Array Oper}{rest:List Oper}{o:Oper}{a:Act}{Q:Exit->Act->World->Prop}(Y8:o.guard=none)(s x:Operand)(t:TypeId)
 (ho:o.op=.call { callee:=.builtin .append,args:=#[s,x],argTypes:=#[t,t] })
 (base:Nat) (e:TypeId) (i:TypeInfo) (z:Value) (size bytes:Nat) (ht:P.underlying t=some (.slice e)) (hi:P.info? e=some i) (hz:i.zero=some z)
 (zI:i.size=size) (hby:i.bytes=bytes) (hzs:z.cells.size=size) (kd:0<size)
 (v:Value) (n:Nat) (xs:List Value) (hs:a.eval s=v) (br:w.ownsRow base e size v n xs)
 (ad:Addr) (m c:Nat) (news:List Value) (hx:a.eval x=.slice (some ad) m c) (hl:news.length=m*size) (Ea:∀j u,news[j]?=some u->w.cell? (ad.add j)=some u) (h1:∀u∈news,u.oneCell'=true)
 (hm:0<m) (h63:n+m<=maxLen) (Eb:(n+m)*bytes<=140737488355328) (qv:base<=w.heap.size)
 (h:∀g cap w',w'.ownsRow base e size (.slice (some ⟨g,0,none⟩) (n+m) cap) (n+m) (xs++news)->w.grownBy w' v.ownBlock->(v.ownBlock=some g\/w.heap.size<=g)->wpList P ops Q rest (a.put o.dst (.slice (some ⟨g,0,none⟩) (n+m) cap)) w'):wpList P ops Q (o::rest) a w:=by
 have grow:∀v' w',w'.ownsRow w.heap.size e size v' (n+m) (xs++news)->w.grownBy w' none->wpList P ops Q rest (a.put o.dst v') w':=by
  intro v' w' h2 h3;obtain ⟨g,cap,rfl,hg⟩:∃g cap,v'=.slice (some ⟨g,0,none⟩) (n+m) cap/\w.heap.size<=g:=by
   rcases h2.2 with ⟨_,h⟩|⟨g,vF,_,h,hb,_⟩
   . omega
   . exact ⟨g,vF,h,hb⟩
  exact h g cap w' (cL h2 qv) ⟨h3.os,h3.tape,h3.output,h3.size,λk hk _=>h3.block k hk (by simp)⟩ (.inr hg)
 have gS:=br;rcases br.2 with ⟨rfl,rfl⟩|⟨g,cap,cur,rfl,hbg,hg,hnc,sS,hcs,agI⟩
 . have Y9:xs=[]:=fT (by simpa using br.1)
   subst Y9;exact nJ w Y8 s x t ho e i z size bytes ht hi hz zI hby hzs kd none 0 0 [] hs (λ_=>⟨rfl,rfl⟩) (by simp) (by intro _ h;cases h) ad m c news hx hl Ea h1 (by omega) h63 Eb grow
 . by_cases Vg:n+m<=cap
   . exact oo w Y8 s x t ho base e i size ht hi zI g n cap xs hs gS ad m c news hx hl Ea h1 Vg (λw' h2 h3=>h g cap w' h2 h3 (.inl rfl))
   . exact nJ w Y8 s x t ho e i z size bytes ht hi hz zI hby hzs kd (some ⟨g,0,none⟩) n cap xs hs (by intro h;cases h) br.1 (by intro b hb;cases hb;exact gS.cells rfl) ad m c news hx hl Ea h1 (by omega) h63 Eb grow
theorem gA {w w':World}(h:Below w.heap.size w w'):w.grownBy w' none:=⟨h.os,h.tape,h.output,h.size,λk hk _=>h.block k hk⟩
theorem aQ.nP {K:Nat->Prop}{w w':World}(h:w.grownBy w' none)(hK:∀k,K k->k<w.heap.size):aQ K w w':=⟨h.os,h.tape,h.output,h.size,λk hk=>h.block k (hK k hk) (by simp)⟩
def lenOf:Value->Nat|.slice _ m _=>m|_=>0
structure Wr (K:Nat->Prop)(w:World)(p:Nat)(v:Value)(bs:List Nat)(l:List Bool):Prop where
 lays:Lays bs l
 sl:w.cell? ⟨p,0,none⟩=some v
 used:w.cell? ⟨p,1,none⟩=some (.int .i64 (l.length:Int))
 f0:w.frozen? ⟨p,0,none⟩=false
 f1:w.frozen? ⟨p,1,none⟩=false
 own:w.ownsRow 0 5 1 v bs.length (Bh bs)
 apart:v.ownBlock≠some p
 kp:¬K p
 kv:∀g,v.ownBlock=some g->¬K g
 old:∀k,K k->k<w.heap.size
def Writer (K:Nat->Prop)(w:World)(p:Nat)(l:List Bool):Prop:=∃v bs,Wr K w p v bs l
theorem Writer.sW {K:Nat->Prop}{w w':World}{p:Nat}{l:List Bool}(h:Writer K w p l)(hg:w.grownBy w' none):Writer K w' p l:=by
 obtain ⟨v,bs,h⟩:=h;have hp:p<w.heap.size:=aX _ _ h.sl;have hb:w'.heap[p]?=w.heap[p]?:=hg.block p hp (by simp);exact ⟨v,bs,h.lays,(bJ (w:=w) hb).trans h.sl,(bJ (w:=w) hb).trans h.used,(bM (w:=w) hb).trans h.f0,(bM (w:=w) hb).trans h.f1,
  h.own.kept hg (by cases v.ownBlock<;>simp),h.apart,h.kp,h.kv,λk hk=>aF (h.old k hk) hg.size⟩
theorem Writer.alloc {K:Nat->Prop}{w:World}{p:Nat}{l:List Bool}(h:Writer K w p l)(o:Obj):Writer K (w.alloc o) p l:=h.sW (bP w o none)
theorem Writer.drew {K:Nat->Prop}{w:World}{p:Nat}{l:List Bool}(h:Writer K w p l):Writer K w.drew p l:=h.sW ⟨rfl,rfl,rfl,af _,λ_ _ _=>rfl⟩
theorem Writer.old {K:Nat->Prop}{w:World}{p:Nat}{l:List Bool}(h:Writer K w p l):∀k,K k->k<w.heap.size:=by
 obtain ⟨v,bs,h⟩:=h;exact h.old
theorem Writer.lt {K:Nat->Prop}{w:World}{p:Nat}{l:List Bool}(h:Writer K w p l):p<w.heap.size:=by
 obtain ⟨v,bs,h⟩:=h;exact aX _ _ h.sl
theorem Writer.also {K K':Nat->Prop}{w w':World}{p:Nat}{l:List Bool}(h:Writer K w p l)(hg:w.grownBy w' none)(hK:∀k,K' k->K k\/(w.heap.size<=k/\k<w'.heap.size)):Writer K' w' p l:=by
 have hp:=h.lt;obtain ⟨v,bs,h'⟩:=h.sW hg;obtain ⟨v0,bs0,h0⟩:=h;have hb:w'.heap[p]?=w.heap[p]?:=hg.block p hp (by simp);have hv:v=v0:=by
  have:=((bJ (w:=w) (w':=w') (a:=⟨p,0,none⟩) hb).trans h0.sl).symm.trans h'.sl;exact (aS this).symm
 subst hv;refine ⟨v,bs,h'.lays,h'.sl,h'.used,h'.f0,h'.f1,h'.own,h'.apart,?_,?_,?_⟩
 . intro hk
   rcases hK p hk with h|h
   . exact h0.kp h
   . omega
 . intro g Gp hk
   rcases hK g hk with h|h
   . exact h0.kv g Gp h
   . have:=(h0.own.lt g Gp).2;omega
 . intro k hk
   rcases hK k hk with h|h
   . exact h'.old k h
   . exact h.2
theorem Writer.less {K K':Nat->Prop}{w:World}{p:Nat}{l:List Bool}(h:Writer K w p l)(hK:∀k,K' k->K k):Writer K' w p l:=
 h.also ⟨rfl,rfl,rfl,af _,λ_ _ _=>rfl⟩ (λk hk=>.inl (hK k hk))
structure uk (K:Nat->Prop)(w:World)(p g m cap:Nat)(bs:List Nat)(l:List Bool):Prop where
 lays:vT bs l
 len:m=bs.length
 sl:w.cell? ⟨p,0,none⟩=some (.slice (some ⟨g,0,none⟩) m cap)
 used:w.cell? ⟨p,1,none⟩=some (.int .i64 (l.length:Int))
 f0:w.frozen? ⟨p,0,none⟩=false
 f1:w.frozen? ⟨p,1,none⟩=false
 own:w.ownsRow 0 5 1 (.slice (some ⟨g,0,none⟩) m cap) m (Bh bs)
 apart:g≠p
 kp:¬K p
 kg:¬K g
 old:∀k,K k->k<w.heap.size
theorem QI {bs:List Nat}{j:Nat}(h:j<bs.length):(Bh bs)[j]?=some (.int .u8 ((bs.getD j 0:Nat):Int)):=by
 simp [Bh,List.getD,h]
theorem Wr.slice {K:Nat->Prop}{w:World}{p:Nat}{v:Value}{bs:List Nat}{l:List Bool}(h:Wr K w p v bs l)(hb:0<bs.length) :
 ∃g cap,v=.slice (some ⟨g,0,none⟩) bs.length cap:=by
 rcases h.own.2 with ⟨_,h⟩|⟨g,cap,_,h,_⟩
 . omega
 . exact ⟨g,cap,h⟩
theorem Wr.room {K:Nat->Prop}{w:World}{p:Nat}{v:Value}{bs:List Nat}{l:List Bool}(h:Wr K w p v bs l)(h8:l.length % 8≠0) :
 ∃g cap,v=.slice (some ⟨g,0,none⟩) bs.length cap/\uk K w p g bs.length cap bs l:=by
 have hl:=h.lays.Vc h8;obtain ⟨g,cap,rfl⟩:=h.slice (by rw [hl.len];omega);exact ⟨g,cap,rfl,hl,rfl,h.sl,h.used,h.f0,h.f1,h.own,λe=>h.apart (by rw [e];rfl),h.kp,h.kv g rfl,h.old⟩
theorem Wr.grown {K:Nat->Prop}{w w1:World}{p g cap:Nat}{v:Value}{bs:List Nat}{l:List Bool}{o:Obj}(h:Wr K w p v bs l)(h8:l.length % 8=0)
 (br:w1.ownsRow 0 5 1 (.slice (some ⟨g,0,none⟩) (bs.length+1) cap) (bs.length+1) (Bh bs++[.int .u8 0])) (hg:(w.alloc o).grownBy w1 v.ownBlock)
 (hb:v.ownBlock=some g\/(w.alloc o).heap.size<=g) :
 aQ K w w1/\w1.cell? ⟨p,0,none⟩=some v/\w1.frozen? ⟨p,0,none⟩=false/\uk K (w1.setCell ⟨p,0,none⟩ (.slice (some ⟨g,0,none⟩) (bs.length+1) cap)) p g (bs.length+1) cap (bs++[0]) l:=by
 have Cm:v.ownBlock=some g\/w.heap.size<g:=by rcases hb with h1|h1;exact .inl h1;exact .inr (by simp at h1;omega)
 have hK:aQ K w w1:=((aQ.refl K w).alloc h.old o).grown hg (λk hk=>by have:=h.old k hk;simp;omega) (λk e=>h.kv k e);have hps:p<w.heap.size:=aX _ _ h.sl;have bW:w1.heap[p]?=w.heap[p]?:=(hg.block p (by simp;omega) (λe=>h.apart e.symm)).trans (bA _ _ _ hps);have c0:=(bJ (w:=w) (w':=w1) (a:=⟨p,0,none⟩) bW).trans h.sl;have c1:=(bJ (w:=w) (w':=w1) (a:=⟨p,1,none⟩) bW).trans h.used;have e0:=(bM (w:=w) (w':=w1) (a:=⟨p,0,none⟩) bW).trans h.f0;have e1:=(bM (w:=w) (w':=w1) (a:=⟨p,1,none⟩) bW).trans h.f1;have QJ:g≠p:=by
  rcases Cm with h1|h1
  . intro e;subst e;exact h.apart h1
  . omega
 have hKg:¬K g:=by
  rcases Cm with h1|h1
  . exact h.kv g h1
  . intro hk;have:=h.old g hk;omega
 refine ⟨hK,c0,e0,h.lays.Vd h8,by simp,kS _ _ _ c0,?_,?_,?_,?_,QJ,h.kp,hKg,?_⟩
 . rw [iE _ _ _ _ (by simp)];exact c1
 . rw [fZ];exact e0
 . rw [fZ];exact e1
 . have e:Bh (bs++[0])=Bh bs++[.int .u8 0]:=by simp [Bh]
   rw [e];exact br.kept (grownBy_setCell _ ⟨p,0,none⟩ _) (.inr (by simp [Value.ownBlock,QJ]))
 . intro k hk
   have:=hK.size;have:=h.old k hk;simp [World.setCell];omega
theorem uk.cell {K:Nat->Prop}{w:World}{p g m cap:Nat}{bs:List Nat}{l:List Bool}(h:uk K w p g m cap bs l) :
 w.cell? ⟨g,l.length / 8,none⟩=some (.int .u8 ((bs.getD (l.length / 8) 0:Nat):Int))/\w.frozen? ⟨g,l.length / 8,none⟩=false/\l.length / 8<m/\bs.getD (l.length / 8) 0<256:=by
 have hl:=h.lays.len;have hm:=h.len;refine ⟨?_,h.own.frozenAt _,by omega,uj h.lays.small _⟩;rw [h.own.cellAt _ (by omega),QI (by omega)]
theorem uk.done {K:Nat->Prop}{w:World}{p g m cap:Nat}{bs:List Nat}{l:List Bool}(h:uk K w p g m cap bs l)(b:Bool)(x:Int)
 (hx:x=((bs.getD (l.length / 8) 0 ||| b.toNat*2 ^ (l.length % 8):Nat):Int)) (y:Int) (hy:y=((l.length+1:Nat):Int)) :
 Writer K ((w.setCell ⟨g,l.length / 8,none⟩ (.int .u8 x)).setCell ⟨p,1,none⟩ (.int .i64 y)).drew p (l++[b]):=by
 subst hx hy;have hm:=h.len;subst hm;obtain ⟨o1,_⟩:=h.own.stored (l.length / 8) (.int .u8 ((bs.getD (l.length / 8) 0 ||| b.toNat*2 ^ (l.length % 8):Nat):Int));have iq:(⟨g,l.length / 8,none⟩:Addr)≠⟨p,1,none⟩:=λe=>h.apart (aU Addr.block e);have Za:(⟨g,l.length / 8,none⟩:Addr)≠⟨p,0,none⟩:=λe=>h.apart (aU Addr.block e);refine ⟨.slice (some ⟨g,0,none⟩) bs.length cap,bs.set (l.length / 8) (bs.getD (l.length / 8) 0 ||| b.toNat*2 ^ (l.length % 8)),h.lays.put b,?_,?_,?_,?_,?_,?_,h.kp,?_,?_⟩
 . show World.cell? (World.setCell _ _ _) _=_
   rw [iE _ _ _ _ (by simp),iE _ _ _ _ Za];exact h.sl
 . show World.cell? (World.setCell _ _ _) _=_
   rw [au];exact kS _ _ _ ((iE _ _ _ _ iq).trans h.used)
 . show World.frozen? (World.setCell _ _ _) _=_
   rw [fZ,fZ];exact h.f0
 . show World.frozen? (World.setCell _ _ _) _=_
   rw [fZ,fZ];exact h.f1
 . have e:Bh (bs.set (l.length / 8) (bs.getD (l.length / 8) 0 ||| b.toNat*2 ^ (l.length % 8)))=(Bh bs).set (l.length / 8) (.int .u8 ((bs.getD (l.length / 8) 0 ||| b.toNat*2 ^ (l.length % 8):Nat):Int)):=by
    simp only [Bh,List.map_set]
   rw [e,iz];exact (o1.kept (grownBy_setCell _ ⟨p,1,none⟩ _) (.inr (by simp [Value.ownBlock,h.apart]))).drew
 . simp [Value.ownBlock,h.apart]
 . intro g' Gp
   simp [Value.ownBlock] at Gp;subst Gp;exact h.kg
 . intro k hk
   have:=h.old k hk;simpa [World.setCell] using this
theorem uk.keeps {K:Nat->Prop}{w0 w:World}{p g m cap:Nat}{bs:List Nat}{l:List Bool}(h:uk K w p g m cap bs l)(hk:aQ K w0 w)(o:Nat)(x y:Value) :
 aQ K w0 ((w.setCell ⟨g,o,none⟩ x).setCell ⟨p,1,none⟩ y).drew:=
 ((hk.setCell h.kg _).setCell h.kp _).drew
theorem RS (old v k n:Nat)(ho:old<256)(hv:v<18446744073709551616) :
 bits BinOp.or IntKind.u8 (old:Int) (bits BinOp.and IntKind.u64 ((v:Int) / 2 ^ min k 64) 1 % 256*2 ^ (n % 8) % 256)=((old ||| (v.testBit k).toNat*2 ^ (n % 8):Nat):Int):=by
 have e1:(v:Int) / 2 ^ min k 64=((v / 2 ^ min k 64:Nat):Int):=by
  rw [Int.natCast_ediv];congr 1
 have cF:v / 2 ^ min k 64<18446744073709551616:=cW (Nat.div_le_self _ _) hv;have e2:bits BinOp.and IntKind.u64 ((v / 2 ^ min k 64:Nat):Int) 1=((v / 2 ^ min k 64 &&& 1:Nat):Int):=u64_and_nat _ 1 cF (by omega);have e3:v / 2 ^ min k 64 &&& 1=(v.testBit k).toNat:=by
  rw [rK];by_cases hk:k<=64
  . rw [gj hk,Ck]
  . rw [pO (by omega),oT (aF hv (show 18446744073709551616<=2 ^ k from by
     have:(2:Nat) ^ 64<=2 ^ k:=dH (by omega) (by omega);simpa using this))]
    have:v / 2 ^ 64=0:=Nat.div_eq_of_lt (by simpa using hv);simp [this]
 have hp:(v.testBit k).toNat*2 ^ (n % 8)<256:=by
  have:2 ^ (n % 8)<=2 ^ 7:=dH (by omega) (by omega)
  cases v.testBit k<;>simp<;>omega
 have e4:((v.testBit k).toNat:Int) % 256*2 ^ (n % 8) % 256=(((v.testBit k).toNat*2 ^ (n % 8):Nat):Int):=by
  have h1:((v.testBit k).toNat:Int) % 256=((v.testBit k).toNat:Int):=by cases v.testBit k<;>simp
  rw [h1];have h2:((v.testBit k).toNat:Int)*2 ^ (n % 8)=(((v.testBit k).toNat*2 ^ (n % 8):Nat):Int):=by
   rw [Int.natCast_mul,Int.natCast_pow];rfl
  rw [h2];exact Int.emod_eq_of_lt (by omega) (by omega)
 rw [e1,e2,e3,e4];exact u8_or_nat _ _ ho hp
end S
end Go.Proofs.YteniahoehoncjaaGreatDoor
