import Derived.Test.YtcoaphfimellcaaGreatDoorFAB
import Derived.BigQuiet
import Derived.Handy
import Derived.Deep.RegionLaw
set_option maxHeartbeats 0
set_option maxRecDepth 100000
namespace Go.Proofs.YtcoaphfimellcaaGreatDoor
open Go.RowKit
open _root_.Go.Proofs.Tryz
open Option renaming some→σ,none→ν
open Go.IntKind renaming i64→κ
open Go.Ending renaming returned→τ
open Go renaming World→ω,Value→υ
open Go.RowKit renaming Below→δ
open Go.Value renaming int→ι,string→θ,pointer→π
variable{v:ByteArray}{n:ω}{l i:Nat}
def Yt(k:Nat)(t:ByteArray)(p:Nat)(n:Int):υ:=.agg #[ι .u8 k,θ t,ι κ p,ι κ n]
def nO(k:Nat)(t:ByteArray)(n:Int):Tk->Prop
 |.stop=>k=0
 |.bad=>k=33
 |.word s=>k=119/\t=s/\n=0
 |.name s=>k=97/\t=s
 |.num m=>k=110/\n=m
 |.str s=>k=115/\t=s
 |.sign s=>k=112/\t=s
theorem gM{w:ω}(a:δ l n w){p:Addr}(e:l<=p.block)(d:υ):δ l n (w.setCell p d):=
 ⟨a.os,a.tape,a.output,by simp[World.setCell];exact a.size,λc b=>(az _ _ _ _ (by omega)).trans (a.block c b)⟩
theorem aH{w:ω}(a:δ l n w):δ l n w.drew:=⟨a.os,a.tape,a.output,a.size,a.block⟩
theorem extract_zero(S:ByteArray)(b a:Nat)(d:b<a)(e:a<=S.size)(c:0<(S.extract b a).size):(S.extract b a)[0]=S[b]'(by omega):=by simp[ByteArray.getElem_extract]
theorem sj{d:Program}(w:ω)(e:TypeId)(c:ByteArray)(f:d.underlying e=σ .string)(b a:Nat)(g:b<=a)(i:a<=c.size) :
 (Instr.slice e (θ c) (σ (ι κ b)) (σ (ι κ a)) ν).run d w=.ok (θ (c.extract b a)) w:=by simp[Instr.slice,run_underlying f,Instr.sliceBounds,run_sliceBound, *]
def rP(S:ByteArray)(i e:Nat)(h:i<S.size):Tk:=
 if da S[i]then(if 8<e - i then .bad else if cK.any (jN (S.extract i e))then .word (S.extract i e)else .name (S.extract i e))
 else if 19<e - i\/9223372036854775807<mN (S.extract i e).data.toList then .bad else .num (mN (S.extract i e).data.toList)
theorem agu(a:Dn v=σ l):l<=9223372036854775807:=by unfold Dn at a;split at a;{cases a};cases a;omega
theorem Laid.below{w:ω}(d:Laid w)(e:δ w.heap.size w n):Laid n:=by intro b g f;have a:=d b g f;have c:0<w.heap.size:=bA _ _ a;exact(e.cell (p:=⟨0,b,ν⟩) c).trans a
theorem ab1(p:Nat)(x:gO)(b:Nat)(w:ω)(g:uA w p x)(C:Laid w)(O:x.pos<b)(P:b<=x.S.size)
 (B:da (x.S[x.pos]'(by omega))=false->∀i (U:i<(x.S.extract x.pos b).size),cX (x.S.extract x.pos b)[i]=true) :
 Calls prog 32 #[π (σ ⟨p,0,ν⟩),ι κ b] w λV W=>
 ∃r G d,V=τ (Yt r G x.pos d)/\nO r G d (rP x.S x.pos b (by omega))/\r<256/\cR d/\δ w.heap.size w W:=by
 have Y:w.cell? ⟨p,0,ν⟩=σ (θ x.S):=g.cell 0;have c1:w.cell? ⟨p,1,ν⟩=σ (ι κ x.pos):=g.cell 1;have Z:=g.lt;have F:(x.S.extract x.pos b).size=b - x.pos:=by rw[dt];omega
 have D:=extract_zero x.S x.pos b O P (by omega);have L:=C;have X:=g;clear C g;have g1:(x.pos:Int)<=b:=by omega
 have g2:(b:Int)<=x.S.size:=by omega
 have g3:¬(b:Int)<x.pos:=by omega
 have g4:¬(x.S.size:Int)<b:=by omega
 have⟨a,j⟩:=nm (x.S.extract x.pos b);have T:a.size=b - x.pos:=by rw[j];exact F
 have A:∀h0:0<a.size,a[0]=x.S[x.pos]'(by omega):=by subst j;exactλ_=>D
 have y:da (x.S[x.pos]'(by omega))=false->∀i (U:i<a.size),cX a[i]=true:=by subst j;exact B
 have n:=au j;have M:=au A;have I:=au y;clear j A y B D F;go_in;go_wp2_with fail;go_region;rw[<- n.J];go_wp2_with fail;have R:0<a.size:=by omega
 refine(xJ _ _).mono ?_;rintro v H ⟨rfl,rfl⟩;have z:iV a[0].toNat=da x.S[x.pos]:=by rw[<- M.J R];rfl
 rw[z];have u:∀(s t:Obj),Laid ((w.alloc s).alloc t).drew:=λs t=>L.below (aH (((ah _ _).alloc (ae _) s).alloc (by simp) t));have N:=au u;clear u z;by_cases l:da x.S[x.pos]=true
 .rw[l];go_wp2_with fail;refine(PK a _ (N.J _ _)).mono ?_;rintro v H ⟨rfl,rfl⟩;have k:rP x.S x.pos b (by omega)=if 8<b - x.pos then .bad else if cK.any (jN a)then .word a else .name a:=by
   unfold rP;rw[aF l,n.J]
  have e:=au k;clear k;by_cases o:8<b - x.pos;{have Q:(8:Int)<a.size:=(by omega);have c:rP x.S x.pos b (by omega)=.bad:=(by rw[e.J,aF o]);have f:=au c;clear c;cases cK.any (jN a);{go_wp2;go_returns;exact⟨33,a,0,rfl,by rw[f.J];exact rfl,by decide,by unfold cR;decide,aH (((ah _ _).alloc (ae _) _).alloc (by simp) _)⟩};go_wp2;go_returns;exact⟨33,a,0,rfl,by rw[f.J];exact rfl,by decide,by unfold cR;decide,aH (((ah _ _).alloc (ae _) _).alloc (by simp) _)⟩};have Q:¬(8:Int)<a.size:=(by omega);cases zk:cK.any (jN a);{have c:rP x.S x.pos b (by omega)=.name a:=(by rw[e.J,aE o,zk];rfl);have f:=au c;clear c;go_wp2;go_returns;exact⟨97,a,0,rfl,by rw[f.J];exact⟨rfl,rfl⟩,by decide,by unfold cR;decide,aH (((ah _ _).alloc (ae _) _).alloc (by simp) _)⟩};have c:rP x.S x.pos b (by omega)=.word a:=(by rw[e.J,aE o,zk];rfl);have f:=au c;clear c;go_wp2;go_returns;exact⟨119,a,0,rfl,by rw[f.J];exact⟨rfl,rfl,rfl⟩,by decide,by unfold cR;decide,aH (((ah _ _).alloc (ae _) _).alloc (by simp) _)⟩
 have E:da x.S[x.pos]=false:=(by simpa using l);rw[E];go_wp2_with fail;refine(TI a _ (I.J E)).mono ?_;rintro v H ⟨rfl,rfl⟩;have k:rP x.S x.pos b (by omega)=(match Dn a with|some d=>.num d|none=>.bad):=(by unfold rP Dn;rw[aE l,T,n.J];split<;>rfl);have e:=au k;clear k;cases hn:Dn a with|none=>(rw[EG hn];go_wp2;go_returns;exact⟨33,a,0,rfl,by rw[e.J,hn];exact rfl,by decide,by unfold cR;decide,aH (((ah _ _).alloc (ae _) _).alloc (by simp) _)⟩)|some d=>rw[LS hn];go_wp2;go_returns;exact⟨110,a,d,rfl,by rw[e.J,hn];exact⟨rfl,rfl⟩,by decide,by have:=agu hn;unfold cR;omega,aH (((ah _ _).alloc (ae _) _).alloc (by simp) _)⟩
def uB(S:ByteArray)(i:Nat)(h:i<S.size):Tk:=if dZ S i h=0 then .bad else .sign (S.extract i (i+dZ S i h))
theorem sF(w:ω)(a:Obj)(c:Nat):δ w.heap.size w ((w.alloc a).drewN c)/\((w.alloc a).drewN c).heap[w.heap.size]?=σ a:=by have b:δ w.heap.size w (w.alloc a):=(ah _ _).alloc (ae _) a;refine⟨⟨b.os,b.tape,b.output,b.size,b.block⟩,ak w a⟩
structure aB9 (W:ω)(r:Nat):Prop where
 c0:∃v,W.cell? ⟨r,0,ν⟩=σ v
 c1:∃v,W.cell? ⟨r,1,ν⟩=σ v
 c2:∃v,W.cell? ⟨r,2,ν⟩=σ v
 c3:∃v,W.cell? ⟨r,3,ν⟩=σ v
 fz:∀i,W.frozen? ⟨r,i,ν⟩=false
def uC:List UInt8:=[40,41,44,124,58,61,60,62,43,45,42,47,37]
theorem PL{S:ByteArray}{h:l<S.size}(a:l+1<S.size)(b:(S[l].toNat=60/\(S[l+1].toNat=62\/S[l+1].toNat=61))\/(S[l].toNat=62/\S[l+1].toNat=61)):dZ S l h=2:=by unfold dZ;rw[ec a,aF b]
theorem PN{S:ByteArray}{h:l<S.size}(c:∀a:l+1<S.size,¬((S[l].toNat=60/\(S[l+1].toNat=62\/S[l+1].toNat=61))\/(S[l].toNat=62/\S[l+1].toNat=61)))(d:S[l]∈uC):dZ S l h=1:=by have b:S[l].toNat∈[40,41,44,124,58,61,60,62,43,45,42,47,37]:=mT (f:=UInt8.toNat) d;unfold dZ;simp only;rw[aE ?_,aF b];split;{rename_i a;exact c a};omega
theorem NA{S:ByteArray}{h:l<S.size}(e:∀a:l+1<S.size,¬((S[l].toNat=60/\(S[l+1].toNat=62\/S[l+1].toNat=61))\/(S[l].toNat=62/\S[l+1].toNat=61)))(g:¬S[l]∈uC):dZ S l h=0:=by have b:¬S[l].toNat∈[40,41,44,124,58,61,60,62,43,45,42,47,37]:=(by intro d;have:S[l].toNat∈uC.map UInt8.toNat:=d;rw[cI]at this;obtain⟨i,c,f⟩:=this;have:=iY.mp f;subst this;exact g c);unfold dZ;simp only;rw[aE ?_,aE b];split;{rename_i a;exact e a};omega
theorem ab3(p:Nat)(x:gO)(w:ω)(c:uA w p x)(d:x.pos<x.S.size)(M:x.S.size<=300)(y:x.pos+1<x.S.size)
 (g:(x.S[x.pos].toNat=60/\(x.S[x.pos+1].toNat=62\/x.S[x.pos+1].toNat=61))\/(x.S[x.pos].toNat=62/\x.S[x.pos+1].toNat=61)) :
 Calls prog 34 #[π (σ ⟨p,0,ν⟩)] w λz A=>
 ∃i k j,z=τ (Yt i k x.pos j)/\nO i k j (uB x.S x.pos d)/\k.size=dZ x.S x.pos d/\i<256/\cR j/\δ w.heap.size w A:=by
 have D:w.cell? ⟨p,0,ν⟩=σ (θ x.S):=c.cell 0;have c1:w.cell? ⟨p,1,ν⟩=σ (ι κ x.pos):=c.cell 1;have E:=c.lt;clear c;have H:(x.pos:Int)<x.S.size:=by omega
 obtain⟨q,e⟩:=nm (x.pos+1:Nat);obtain⟨a,C⟩:∃a:Nat,(x.pos:Int)+2=a:=⟨x.pos+2,by omega⟩;have l:=au (PL (h:=d) y g);have N:(x.pos:Int)+1=q:=by omega
 have O:q<x.S.size:=by omega
 have r:(x.S[x.pos].toNat=60/\(x.S[q].toNat=62\/x.S[q].toNat=61))\/(x.S[x.pos].toNat=62/\x.S[q].toNat=61):=by subst e;exact g
 have B:=au e;clear g e;have I:(q:Int)<x.S.size:=by omega
 have L:(a:Int)<=x.S.size:=by omega
 have u:a<=x.S.size:=by omega
 have v:x.pos<=a:=by omega
 have P:∀w,(Instr.slice 9 (θ x.S) (σ (ι κ x.pos)) (σ (ι κ a)) ν).run prog w=.ok (θ (x.S.extract x.pos a)) w:=λw=>sj w 9 x.S underlying9 x.pos a v u;have n:(x.S.extract x.pos a).size=2:=by rw[dt];omega
 have o:uB x.S x.pos d=.sign (x.S.extract x.pos a):=(by unfold uB;rw[l.J,aE (by omega),show x.pos+2=a from by omega]);have t:=au n;have s:=au o;clear n o;go_in;go_wp2_with fail;go_quiet(fail);go_wp2_with fail;go_quiet(fail);go_wp2_with fail;go_quiet(fail);rcases r with⟨f,b|b⟩|⟨f,b⟩
 all_goals
  have F:(x.S[x.pos].toNat:Int)=_:=a7 Nat.cast f;have G:(x.S[q].toNat:Int)=_:=a7 Nat.cast b;clear f b;go_wp2_with fail;go_region;go_wp2_with fail;go_returns;exact⟨112,_,0,rfl,by rw[s.J];exact⟨rfl,rfl⟩,by rw[t.J,l.J],by decide,by unfold cR;decide,
   gM (gM (gM (gM (sF w _ _).1 (ae _) _) (ae _) _) (ae _) _) (ae _) _⟩
theorem ak3(w:ω)(a m:Nat):(w.drewN a).drewN m=w.drewN (a+m):=by simp
theorem ak4(w:ω)(b m a:Nat):((w.drewN b).drewN m).drewN a=w.drewN (b+m+a):=by simp
theorem Il(p:Nat)(x:gO)(w:ω)(j:uA w p x)(k:x.pos<x.S.size)(h3:x.S.size<=300)
 (y:∀h2:x.pos+1<x.S.size,¬((x.S[x.pos].toNat=60/\(x.S[x.pos+1].toNat=62\/x.S[x.pos+1].toNat=61))\/(x.S[x.pos].toNat=62/\x.S[x.pos+1].toNat=61))) :
 Calls prog 34 #[π (σ ⟨p,0,ν⟩)] w λaa w'=>
 ∃t F E,aa=τ (Yt t F x.pos E)/\nO t F E (uB x.S x.pos k)/\F.size=dZ x.S x.pos k/\t<256/\cR E/\δ w.heap.size w w':=by
 have c0:w.cell? ⟨p,0,ν⟩=σ (θ x.S):=j.cell 0;have c1:w.cell? ⟨p,1,ν⟩=σ (ι κ x.pos):=j.cell 1;have cQ:=j.lt;have HP:=j;clear j;have g1:(x.pos:Int)<x.S.size:=by omega
 have⟨q,A⟩:=nm (x.pos+1:Nat);have hq:(x.pos:Int)+1=q:=by omega
 have H:∀h2:q<x.S.size,¬((x.S[x.pos].toNat=60/\(x.S[q].toNat=62\/x.S[q].toNat=61))\/(x.S[x.pos].toNat=62/\x.S[q].toNat=61)):=by subst A;exact y
 have g7:q<=x.S.size:=by omega
 have g8:x.pos<=q:=by omega
 have ad:∀w,(Instr.slice 9 (θ x.S) (σ (ι κ x.pos)) (σ (ι κ q)) ν).run prog w=.ok (θ (x.S.extract x.pos q)) w:=λw=>sj w 9 x.S underlying9 x.pos q g8 g7;have L:(x.S.extract x.pos q).size=1:=by rw[dt];omega
 have Q:x.S[x.pos]∈uC->dZ x.S x.pos k=1/\uB x.S x.pos k=.sign (x.S.extract x.pos q):=λl=>by
  have r:=PN (h:=k) y l;exact⟨r,by unfold uB;rw[r,aE (by omega),show x.pos+1=q from by omega]⟩
 have M:¬x.S[x.pos]∈uC->dZ x.S x.pos k=0/\uB x.S x.pos k=.bad:=λl=>by
  have r:=NA (h:=k) y l;exact⟨r,by unfold uB;rw[r,aF rfl]⟩
 have V:=au L;have U:=au Q;have T:=au M;have R:=au H;have HQ:=au A;clear L Q M y H A;refine(Classical.em (q<x.S.size)).elim (λO=>?a) (λO=>?b);(case' a=>have g2:(q:Int)<x.S.size:=(by omega);have B:=R.J O;refine(Classical.em ((x.S[x.pos].toNat:Int)=60)).elim (λD=>?c) (λD=>?d);(case' c=>have e1:((x.S[q].toNat:Int)==62)=false:=(by rw[aK];omega);have e2:((x.S[q].toNat:Int)==61)=false:=(by rw[aK];omega);clear B);case' d=>have Z:((x.S[x.pos].toNat:Int)==60)=false:=(by rw[aK];omega);refine(Classical.em ((x.S[x.pos].toNat:Int)=62)).elim (λP=>?e) (λP=>?f);(case' e=>have e2:((x.S[q].toNat:Int)==61)=false:=(by rw[aK];omega);clear B D Z);case' f=>have ab:((x.S[x.pos].toNat:Int)==62)=false:=(by rw[aK];omega);clear B D P);case' b=>have g2:¬(q:Int)<x.S.size:=by omega
 all_goals
  go_in;go_wp2_with fail;(repeat(go_quiet(fail);go_wp2_with fail));go_loopw[6] (λG wr=>∃g:Nat,g<=13/\G=ι κ g/\(∃t,wr=(w.alloc (.cells #[ι .u8 0,θ ⟨#[]⟩,ι κ 0,ι κ 0] 64)).drewN t)/\Hid (∀i:Nat,i<g->∀n,uC[i]?=σ n->n≠x.S[x.pos])) (λG _=>13 - (intOf G).toNat);case atStart=>exact⟨0,by omega,rfl,by first|exact⟨_,rfl⟩|exact⟨_,ak3 _ _ _⟩|exact⟨_,ak4 _ _ _ _⟩,au (λi z=>by omega)⟩
  case round=>
   obtain⟨g,hi,rfl,⟨t,rfl⟩,I⟩:=hrel;by_cases N:g<13
   .have g3:(g:Int)<13:=(by omega);obtain⟨u,o⟩:∃u,uC[g]?=σ u:=⟨uC[g]'N,af _⟩;have ac:∀j,(ByteArray.mk #[40,41,44,124,58,61,60,62,43,45,42,47,37])[g]'j=u:=λj=>by
     have:uC[g]?=σ ((ByteArray.mk #[40,41,44,124,58,61,60,62,43,45,42,47,37])[g]'j):=by
      rw[af N];rfl
     rw[this]at o;exact bk o
    by_cases s:u=x.S[x.pos];{have X:((u.toNat:Int)==(x.S[x.pos].toNat:Int))=true:=(by rw[s];simp);have l:x.S[x.pos]∈uC:=(by rw[<- s];exact aA o);have v:=au (U.J l);clear o s l;go_wp2_with fail;go_region;go_wp2;go_returns;exact⟨112,_,0,rfl,by rw[v.J.2];exact⟨rfl,rfl⟩,by rw[V.J,v.J.1],by decide,by unfold cR;decide,gM (gM (gM (gM (sF w _ _).1 (ae _) _) (ae _) _) (ae _) _) (ae _) _⟩}
    have X:((u.toNat:Int)==(x.S[x.pos].toNat:Int))=false:=(by rw[aK];intro r;exact s (iY.mp (by omega)))
    have W:Hid (∀i:Nat,i<g+1->∀n,uC[i]?=σ n->n≠x.S[x.pos]):=au (λi z n C=>by
     by_cases Y:i=g
     . subst Y;rw[o]at C;cases C;exact s
     . exact I.J i (by omega) n C)
    clear o s;go_wp2;go_roundw;(case rel=>exact⟨g+1,by omega,by go_num,⟨_,rfl⟩,W⟩);case measure=>simp[intOf];omega
   obtain rfl:g=13:=(by omega)
   have v:=au (T.J (λl=>by
    have⟨i,z⟩:=dK l;have:i<13:=(aj.mp z).1;exact I.J i this _ z rfl))
   go_wp2;go_returns;exact⟨33,⟨#[]⟩,0,rfl,by rw[v.J.2];rfl,by rw[v.J.1];rfl,by decide,by unfold cR;decide,gM (gM (gM (gM (sF w _ _).1 (ae _) _) (ae _) _) (ae _) _) (ae _) _⟩
theorem ab4(p:Nat)(x:gO)(w:ω)(b:uA w p x)(a:x.pos<x.S.size)(c:x.S.size<=300) :
 Calls prog 34 #[π (σ ⟨p,0,ν⟩)] w λk l=>
 ∃d f e,k=τ (Yt d f x.pos e)/\nO d f e (uB x.S x.pos a)/\f.size=dZ x.S x.pos a/\d<256/\cR e/\δ w.heap.size w l:=by by_cases g:x.pos+1<x.S.size;{by_cases i:(x.S[x.pos].toNat=60/\(x.S[x.pos+1].toNat=62\/x.S[x.pos+1].toNat=61))\/(x.S[x.pos].toNat=62/\x.S[x.pos+1].toNat=61);{exact ab3 p x w b a c g i};exact Il p x w b a c (λ_=>i)};exact Il p x w b a c (λj=>absurd j g)
def Cm(S:ByteArray)(i:Nat):Tk:=
 if h2:aP S fX (i+1)<S.size then(if S[aP S fX (i+1)].toNat=39/\aP S fX (i+1) - i - 1<=12 then .str (S.extract (i+1) (aP S fX (i+1)))else .bad)else .bad
def tQ(S:ByteArray)(i:Nat):Nat:=
 if h2:aP S fX (i+1)<S.size then(if S[aP S fX (i+1)].toNat=39/\aP S fX (i+1) - i - 1<=12 then aP S fX (i+1) - i - 1 else 0)else 0
theorem ab5{S:ByteArray}(c:aP S fX (l+1)=i)(b:∀a:i<S.size,¬(S[i].toNat=39/\i - l - 1<=12)):Cm S l=.bad/\tQ S l=0:=by subst c;unfold Cm tQ;split;{rename_i a;rw[aE (b a),aE (b a)];exact⟨rfl,rfl⟩};exact⟨rfl,rfl⟩
theorem Yv{S:ByteArray}(c:aP S fX (l+1)=i)(a:i<S.size)(b:S[i].toNat=39/\i - l - 1<=12):Cm S l=.str (S.extract (l+1) i)/\tQ S l=i - l - 1:=by subst c;unfold Cm tQ;rw[ec a,ec a,aF b,aF b];exact⟨rfl,rfl⟩
theorem zx(b:UInt8):fX b=true↔32<=b.toNat/\b.toNat<=126/\b.toNat≠39:=by unfold fX;rw[cC,cC,dE,dE,ot,eN];exact⟨λa=>⟨a.1.1,a.1.2,a.2⟩,λa=>⟨⟨a.1,a.2.1⟩,a.2.2⟩⟩
theorem TJ(p:Nat)(x:gO)(w:ω)(b:uA w p x)(O:x.pos<x.S.size)(P:x.S.size<=300):Calls prog 33 #[π (σ ⟨p,0,ν⟩)] w λF G=>
 ∃f s r,F=τ (Yt f s x.pos r)/\nO f s r (Cm x.S x.pos)/\s.size=tQ x.S x.pos/\f<256/\cR r/\δ w.heap.size w G:=by
 have I:w.cell? ⟨p,0,ν⟩=σ (θ x.S):=b.cell 0;have c1:w.cell? ⟨p,1,ν⟩=σ (ι κ x.pos):=b.cell 1;have L:=b.lt;clear b;go_in;go_wp2_with fail;go_loopw[3] (λt wr=>∃a:Nat,x.pos+1<=a/\a<=x.S.size/\t=ι κ a/\(∃f,wr=(w.alloc (.cells #[ι .u8 0,θ ⟨#[]⟩,ι κ 0,ι κ 0] 64)).drewN f)/\Hid (aP x.S fX (x.pos+1)=aP x.S fX a)) (λt _=>x.S.size - (intOf t).toNat);case atStart=>exact⟨x.pos+1,by omega,by omega,by go_num,⟨0,rfl⟩,au rfl⟩
 case round=>
  obtain⟨a,R,E,rfl,⟨f,rfl⟩,v⟩:=hrel;by_cases c:∃_:a<x.S.size,fX x.S[a]=true;{obtain⟨d,c⟩:=c;have n:(a:Int)<x.S.size:=(by omega);have B:=au (v.J.trans (dQ _ _ _ d c));obtain⟨l,z,e⟩:=(zx _).mp c;have l:(32:Int)<=x.S[a].toNat:=(by omega);have z:(x.S[a].toNat:Int)<=126:=(by omega);have C:((x.S[a].toNat:Int)==39)=false:=(by rw[aK];omega);clear c e;go_wp2_with fail;go_roundw;(case rel=>exact⟨a+1,by omega,by omega,by go_num,⟨_,rfl⟩,B⟩);case measure=>simp[intOf];omega}
  have j:aP x.S fX (x.pos+1)=a:=(by rw[v.J];by_cases d:a<x.S.size;{exact eY _ _ _ d (eJ.mpr λb=>c ⟨d,b⟩)};exact iG _ _ _ d);by_cases k:∃_:a<x.S.size,(x.S[a].toNat:Int)=39/\(a:Int) - x.pos - 1<=12
  .obtain⟨d,e,M⟩:=k;have n:(a:Int)<x.S.size:=(by omega);clear c;obtain⟨q,u⟩:=nm (x.pos+1:Nat);have T:(x.pos:Int)+1=q:=(by omega);have D:q<=a:=(by omega);have U:∀w,(Instr.slice 9 (θ x.S) (σ (ι κ q)) (σ (ι κ a)) ν).run prog w=.ok (θ (x.S.extract q a)) w:=λw=>sj w 9 x.S underlying9 q a D E;have y:(x.S.extract q a).size=a - x.pos - 1:=(by rw[dt];omega)
   have o:=Yv j d (by omega);rw[<- u]at o;have g:=au o;have A:=au y;clear j y u o;go_wp2_with fail;go_region;go_wp2_with fail;go_returns;exact⟨115,_,0,rfl,by rw[g.J.1];exact⟨rfl,rfl⟩,by rw[A.J,g.J.2],by decide,by unfold cR;decide,
    gM (gM (gM (gM (sF w _ _).1 (ae _) _) (ae _) _) (ae _) _) (ae _) _⟩
  have g:=au (ab5 j (λi Q=>by
   refine iA λH=>k ⟨i,by omega,by omega⟩))
  rcases(show(¬(a:Int)<x.S.size)\/∃_:a<x.S.size,(a:Int)<x.S.size/\(((x.S[a].toNat:Int)=39/\¬((a:Int) - x.pos - 1<=12))\/(((x.S[a].toNat:Int)==39)=false/\(¬(32:Int)<=x.S[a].toNat\/(32:Int)<=x.S[a].toNat/\¬(x.S[a].toNat:Int)<=126)))from by
   by_cases i:a<x.S.size
   . refine .inr ⟨i,by omega,?_⟩
     by_cases e:(x.S[a].toNat:Int)=39
     . exact .inl ⟨e,λb=>k ⟨i,e,b⟩⟩
     . refine .inr ⟨by rw[aK];exact e,?_⟩
       have:=mt (zx x.S[a]).mpr λb=>c ⟨i,b⟩;omega
   . exact .inl (by omega))with n|⟨d,n,⟨e,N⟩|⟨C,l|⟨l,z⟩⟩⟩
  all_goals
   clear j c k;go_wp2_with fail;go_returns;exact⟨33,⟨#[]⟩,0,rfl,by rw[g.J.1];rfl,by rw[g.J.2];rfl,by decide,by unfold cR;decide,
    gM (gM (gM (gM (sF w _ _).1 (ae _) _) (ae _) _) (ae _) _) (ae _) _⟩
def Other(p:Nat)(w:ω)(k:Nat):Prop:=k≠p/\k<w.heap.size
theorem uA.PO{w:ω}{p:Nat}{x:gO}(b:uA w p x)(a:Nat):uA (w.setCell (Ad p 1) (ι κ a)) p { x with pos:=a }:=b.set 1 _ (by simp[jy])
theorem uA.drewN{w:ω}{p:Nat}{x:gO}(a:uA w p x)(b:Nat):uA (w.drewN b) p x:=a
theorem uA.tok{w:ω}{p:Nat}{x:gO}(e:uA w p x)(a:Nat)(b:ByteArray)(c:Nat)(d:Int) :
 uA ((((w.setCell (Ad p 2) (ι .u8 a)).setCell (Ad p 3) (θ b)).setCell (Ad p 4) (ι κ c)).setCell (Ad p 5) (ι κ d)) p { x with tk:=a,tt:=b,tp:=c,tn:=d }:=by have f:uA (w.setCell (Ad p 2) (ι .u8 a)) p { x with tk:=a }:=e.set 2 _ (by simp[jy]);have g:uA ((w.setCell (Ad p 2) (ι .u8 a)).setCell (Ad p 3) (θ b)) p { x with tk:=a,tt:=b }:=f.set 3 _ (by simp[jy]);have i:uA (((w.setCell (Ad p 2) (ι .u8 a)).setCell (Ad p 3) (θ b)).setCell (Ad p 4) (ι κ c)) p { x with tk:=a,tt:=b,tp:=c }:=g.set 4 _ (by simp[jy]);exact i.set 5 _ (by simp[jy])
theorem aY.drewN{K:Nat->Prop}{w:ω}(a:aY K n w)(b:Nat):aY K n (w.drewN b):=⟨a.os,a.tape,a.output,a.size,a.block⟩
theorem aY.own{p:Nat}{w:ω}(a:aY (Other p n) n w)(b:Nat)(c:υ):aY (Other p n) n (w.setCell (Ad p b) c):=a.setCell (p:=(Ad p b)) (λa=>a.1 rfl) c
theorem aY.tok{p:Nat}{w:ω}(e:aY (Other p n) n w)(a b c d:υ):aY (Other p n) n ((((w.setCell (Ad p 2) a).setCell (Ad p 3) b).setCell (Ad p 4) c).setCell (Ad p 5) d):=
 (((e.own 2 a).own 3 b).own 4 c).own 5 d
theorem aY.TK{p:Nat}{w c:ω}(b:aY (Other p n) n w)(a:δ w.heap.size w c):aY (Other p n) n c:=
 b.trans ⟨a.os,a.tape,a.output,a.size,λe d=>a.block e (ai d.2 b.size)⟩
theorem Laid.keeps{p:Nat}{w:ω}(d:Laid n)(e:aY (Other p n) n w)(i:0<p):Laid w:=by intro b g f;have a:=d b g f;have c:0<n.heap.size:=bA _ _ a;exact(e.cell (p:=(Ad 0 b)) ⟨by simp;omega,c⟩).trans a
structure ak6 (x x':gO):Prop where
 same:x'={ x with pos:=x'.pos,tk:=x'.tk,tt:=x'.tt,tp:=x'.tp,tn:=x'.tn }
 k:x'.tk<256
 n:cR x'.tn
 tok:∀h:aP x.S bS x.pos<x.S.size,nO x'.tk x'.tt x'.tn (ez x.S (aP x.S bS x.pos) h).1/\x'.tp=aP x.S bS x.pos/\x'.pos=(ez x.S (aP x.S bS x.pos) h).2
 fin:¬aP x.S bS x.pos<x.S.size->x'.tk=0/\x'.tp=x.S.size/\x'.pos=aP x.S bS x.pos
theorem Gu(a:iV l=true):jP l=false:=by unfold iV at a;unfold jP;rw[cC,dE,dE]at a;rw[Bool.and_eq_false_iff,eN,eN];omega
def gu(c d:UInt8):Bool:=(da c&&da d)||(cX c&&cX d)
theorem BS(S:ByteArray)(a b:UInt8->Bool)(e:∀c,a c=b c)(d:Nat):aP S a d=aP S b d:=by have:a=b:=funext e;rw[this]
theorem TL(S:ByteArray)(a:Nat)(e:a<S.size)(f:gu S[a] S[a]=true):ez S a e=(rP S a (aP S (gu S[a]) a) e,aP S (gu S[a]) a):=by
 unfold gu at f;by_cases b:da S[a]=true
 .have d:aP S (gu S[a]) a=aP S da a:=BS _ _ _ (λg=>by
   unfold gu;have c:cX S[a]=false:=by
    unfold da iV at b;unfold cX jP;rw[cC,dE,dE]at b;rw[Bool.and_eq_false_iff,eN,eN];omega
   rw[b,c];simp) a
  rw[d];unfold ez rP;rw[aF b,aF b];simp only;split;{rfl};split<;>rfl
 have c:cX S[a]=true:=by simpa[b]using f
 have d:aP S (gu S[a]) a=aP S cX a:=BS _ _ _ (λg=>by
  unfold gu;rw[c,eJ.mpr b];simp) a
 rw[d];unfold ez rP;rw[aE b,aE b,aF c];simp only;split<;>rfl
theorem TM(S:ByteArray)(a:Nat)(c:a<S.size)(b:S[a].toNat=39):ez S a c=(Cm S a,a+tQ S a+2):=by
 have e:¬da S[a]=true:=by unfold da iV;rw[b];decide
 have d:¬cX S[a]=true:=by unfold cX jP;rw[b];decide
 have i:=eP S fX (a+1);unfold ez Cm tQ;rw[aE e,aE d,aF b];simp only;split;{split;{rename_i f g;refine AQ rfl ?_;simp only;omega};rfl};rfl
theorem TN(S:ByteArray)(a:Nat):tQ S a<=12:=by unfold tQ;split;{split<;>omega};omega
theorem TP(S:ByteArray)(a:Nat)(c:a<S.size)(b:gu S[a] S[a]=false)(e:¬S[a].toNat=39):ez S a c=(uB S a c,a+dZ S a c):=by unfold gu at b;rw[Bool.or_eq_false_iff,Bool.and_self,Bool.and_self]at b;unfold ez uB;rw[aE (by rw[b.1];decide),aE (by rw[b.2];decide),aE e];simp only;split;{rename_i d;rw[d];rfl};rfl
theorem He(S:ByteArray)(d:UInt8->Bool)(b a:Nat)(j:b<=a)(c:a<aP S d b):∃i:a<S.size,d S[a]=true:=by
 rw[aP]at c;split at c
 . rename_i g
   split at c
   . rename_i f
     by_cases e:a=b
     . subst e;exact⟨g,f⟩
     . exact He S d (b+1) a (by omega) c
   . omega
 . omega
 termination_by S.size - b
theorem NB(S:ByteArray)(a c:Nat)(j:a<S.size)(i:c<=S.size)(n:aP S (gu S[a]) a=c)(g:da S[a]=false) :
 ∀b (e:b<(S.extract a c).size),cX (S.extract a c)[b]=true:=by
 intro b e;have l:b<c - a:=by rw[dt]at e;omega
 have⟨k,d⟩:=He S (gu S[a]) a (a+b) (by omega) (by omega);have f:(S.extract a c)[b]=S[a+b]:=ByteArray.getElem_extract ..;rw[f];unfold gu at d;rw[g]at d;simp at d;exact d.2
theorem TQ{S:ByteArray}(c:l<S.size)(b:aP S (gu S[l]) l=i)(d:l<i):gu S[l] S[l]=true:=by have⟨_,a⟩:=He S (gu S[l]) l l (ae _) (by omega);exact a
def WD(b:Bool)(c d:UInt8):Prop:=iV c.toNat=true/\jP c.toNat=false/\iV d.toNat=b\/iV c.toNat=false/\jP c.toNat=true/\jP d.toNat=b
theorem Yx{S:ByteArray}(c:l<S.size)(v:l<=i)(g:aP S (gu S[l]) l=aP S (gu S[l]) i) :
 (∃d:i<S.size,(i:Int)<S.size/\aP S (gu S[l]) l=aP S (gu S[l]) (i+1)/\WD true S[l] S[i])
 \/(l<i/\aP S (gu S[l]) l=i/\ez S l c=(rP S l i c,i)/\(¬(i:Int)<S.size\/∃d:i<S.size,(i:Int)<S.size/\WD false S[l] S[i]))
 \/(l=i/\gu S[l] S[l]=false/\iV S[l].toNat=false/\jP S[l].toNat=false):=by
 have o:gu S[l] S[l]=true->aP S (gu S[l]) l=i->ez S l c=(rP S l i c,i):=λb a=>by have:=TL S l c b;rwa[a]at this
 have r:gu S[l] S[l]=true->aP S (gu S[l]) l=i->l<i:=λb a=>by
  have s:=dQ S (gu S[l]) l c b;have t:=eP S (gu S[l]) (l+1);omega
 by_cases d:i<S.size;{have u:gu S[l] S[i]=(iV S[l].toNat&&iV S[i].toNat||jP S[l].toNat&&jP S[i].toNat):=rfl;have k:gu S[l] S[l]=(iV S[l].toNat&&iV S[l].toNat||jP S[l].toNat&&jP S[l].toNat):=rfl;by_cases e:iV S[l].toNat=false/\jP S[l].toNat=false;{have b:gu S[l] S[l]=false:=(by rw[k,e.1,e.2];rfl);have s:=eY S (gu S[l]) l c b;have t:=eP S (gu S[l]) i;exact .inr (.inr ⟨by omega,b,e⟩)};have b:gu S[l] S[l]=true:=(by rw[k];cases hL:iV S[l].toNat<;>cases f:jP S[l].toNat<;>first|rfl|exact absurd ⟨hL,f⟩ e);have j:WD (gu S[l] S[i]) S[l] S[i]:=(by rw[u];unfold WD;cases hL:iV S[l].toNat;{have f:jP S[l].toNat=true:=(by simpa[hL]using e);simp[f]};simp[Gu hL]);cases hE:gu S[l] S[i]<;>rw[hE]at j;{have a:=g.trans (eY _ _ _ d hE);exact .inr (.inl ⟨r b a,a,o b a,.inr ⟨d,by omega,j⟩⟩)};exact .inl ⟨d,by omega,g.trans (dQ _ _ _ d hE),j⟩};have a:=g.trans (iG _ _ _ d);have n:l<i:=(by omega);exact .inr (.inl ⟨n,a,o (TQ c a n) a,.inl (by omega)⟩)
theorem PR(p:Nat)(x:gO)(w:ω)(e:uA w p x)(hl:Laid w)(Y:0<p)(O:x.S.size<=300)(h4:x.pos<=x.S.size+1):Calls prog 22 #[π (σ (Ad p 0))] w λI g=>
 I=τ (.tuple #[])/\∃W,uA g p W/\ak6 x W/\aY (Other p w) w g:=by
 have HP:=au e;have HL:=au hl;go_in;go_wp2;go_loopw[] (λwr=>∃a:Nat,a<=x.S.size+1/\Hid (uA wr p { x with pos:=a })/\Hid (aY (Other p w) w wr)/\Hid (aP x.S bS x.pos=aP x.S bS a)) (λwr=>x.S.size+1 - (intOf ((wr.cell? (Ad p 1)).getD undef)).toNat);case atStart=>exact⟨x.pos,h4,HP,au (aY.refl _ _),au rfl⟩
 case round=>
  obtain⟨a,hi,b,y,C⟩:=hrel;have c0:wr.cell? (Ad p 0)=σ (θ x.S):=b.J.cell 0;have c1:wr.cell? (Ad p 1)=σ (ι κ a):=b.J.cell 1;have f1:=b.J.fz 1;by_cases d:a<x.S.size
  .have g1:(a:Int)<x.S.size:=(by omega);by_cases hb:(x.S[a].toNat:Int)=32;{have H:bS x.S[a]=true:=(by unfold bS;rw[dE];omega);have i:=au (C.J.trans (dQ _ _ _ d H));go_wp2_with fail;go_quiet(fail);go_wp2;go_roundw;(case rel=>refine⟨a+1,by omega,au ?_,au ((y.J.drewN _).own 1 _),i⟩;have:=(b.J.drewN nq).PO (a+1);rwa[show(((a+1:Nat):Int))=(a:Int)+1 from by omega]at this);case measure=>have c:=mM (wr.drewN nq) (Ad p 1) (ι κ ((a:Int)+1)) (u:=ι κ a) c1;rw[c,c1];simp[intOf];omega}
   have zm:((x.S[a].toNat:Int)==32)=false:=(by rw[aK];exact hb);have H:bS x.S[a]=false:=(by unfold bS;rw[eN];omega);have i:=au (C.J.trans (eY _ _ _ d H));go_wp2_with fail;go_quiet(fail);go_wp2_with fail;go_quiet(fail);go_wp2_with fail;go_quiet(fail);go_wp2_with fail;rw[show decide (x.S.size<=a)=false from by rw[eN];omega];go_loopw[3] (λL V=>∃c:Nat,a<=c/\c<=x.S.size/\L=ι κ c/\Hid (uA V p { x with pos:=a })/\Hid (aY (Other p w) w V)/\Hid (aP x.S (gu x.S[a]) a=aP x.S (gu x.S[a]) c)) (λL _=>x.S.size - (intOf L).toNat);(case atStart=>exact⟨a,ae _,by omega,rfl,au (b.J.drewN _),au (y.J.drewN _),au rfl⟩);case round=>
    obtain⟨c,PS,M,rfl,f,z,Z⟩:=hrel;have c0:wr.cell? (Ad p 0)=σ (θ x.S):=f.J.cell 0;have c1:wr.cell? (Ad p 1)=σ (ι κ a):=f.J.cell 1;have f1:=f.J.fz 1;rcases Yx d PS Z.J with⟨vx,E,NC,G⟩|⟨P,jM,ac,G⟩|⟨rfl,X,r,o⟩;{have ab:=au NC;rcases G with⟨r,o,v⟩|⟨r,o,v⟩;all_goals go_wp2_with(first|(go_at_call 30;refine(xJ _ _).mono ?_;rintro l g ⟨rfl,rfl⟩)|(go_at_call 31;refine(EF _ _).mono ?_;rintro l g ⟨rfl,rfl⟩));go_roundw;(case rel=>exact⟨c+1,by omega,by omega,by go_num,f,z,ab⟩);case measure=>simp[intOf];omega};case' inr.inl=>
     have am:(a:Int)<c:=(by omega);have B:=au ac;have D:=au jM;rcases G with E|⟨vx,E,⟨r,o,v⟩|⟨r,o,v⟩⟩
     all_goals go_wp2_with(first|(go_at_call 30;refine(xJ _ _).mono ?_;rintro l g ⟨rfl,rfl⟩)|(go_at_call 31;refine(EF _ _).mono ?_;rintro l g ⟨rfl,rfl⟩));refine(ab1 p { x with pos:=a } c wr f.J (HL.J.keeps z.J Y) P M (NB x.S a c d M D.J)).mono ?_;rintro I k ⟨R,n,T,rfl,N,s,t,F⟩;have al:=P
    (case' inr.inr=>have E:(a:Int)<x.S.size:=(by omega);by_cases ad:(x.S[a].toNat:Int)=39;(case' pos=>have B:=au (TM x.S a d (by omega)));(case' neg=>have an:((x.S[a].toNat:Int)==39)=false:=(by rw[aK];exact ad);have B:=au (TP x.S a d X (by omega)));all_goals go_wp2_with(first|(go_at_call 30;refine(xJ _ _).mono ?_;rintro l g ⟨rfl,rfl⟩)|(go_at_call 31;refine(EF _ _).mono ?_;rintro l g ⟨rfl,rfl⟩));(first|refine(TJ p { x with pos:=a } wr f.J d O).mono ?_|refine(ab4 p { x with pos:=a } wr f.J d O).mono ?_);rintro I k ⟨R,n,T,rfl,N,U,s,t,F⟩;have al:n.size<=300:=(by rw[U];first|exact ag (TN x.S a) (by omega)|exact ag (xF x.S a d).1 (by omega));have D:=au U);all_goals
     have j:uA k p { x with pos:=a }:=f.J.kG (F.block p f.J.lt);have A:=au (z.J.TK F);have d1:k.cell? (Ad p 1)=σ (ι κ a):=j.cell 1;have d2:k.cell? (Ad p 2)=σ (ι .u8 x.tk):=j.cell 2;have d3:k.cell? (Ad p 3)=σ (θ x.tt):=j.cell 3;have d4:k.cell? (Ad p 4)=σ (ι κ x.tp):=j.cell 4;have d5:k.cell? (Ad p 5)=σ (ι κ x.tn):=j.cell 5;have m:=j.fz;have aa:=au j;have HT:=au N;unfold Yt;go_wp2_with fail;(try go_quiet(fail);go_wp2_with fail);go_end0;have u:=λ(nq:Nat) (q:Int) Q (hj:((Q:Nat):Int)=q)=>show uA _ _ _ from hj ▸ ((aa.J.tok R n a T).drewN nq).PO Q
     first
      |refine⟨rfl,_,u 0 _ c rfl,⟨rfl,s,t,λe=>?_,λe=>?_⟩,(A.J.tok _ _ _ _).own 1 _⟩
      |refine⟨rfl,_,u _ _ (a+n.size+2) (by omega),⟨rfl,s,t,λe=>?_,λe=>?_⟩,((A.J.tok _ _ _ _).drewN _).own 1 _⟩
      |refine⟨rfl,_,u _ _ (a+n.size) (by omega),⟨rfl,s,t,λe=>?_,λe=>?_⟩,((A.J.tok _ _ _ _).drewN _).own 1 _⟩
     {have hx:=i.J;simp only[hx];rw[B.J];(try rw[D.J]);refine⟨HT.J,?_,?_⟩<;>first|rfl|trivial};exact absurd (by rw[i.J];exact d) e
  have g1:¬(a:Int)<x.S.size:=(by omega);have i:=au (C.J.trans (iG _ _ _ d));have c2:wr.cell? (Ad p 2)=σ (ι .u8 x.tk):=b.J.cell 2;have c3:wr.cell? (Ad p 3)=σ (θ x.tt):=b.J.cell 3;have c4:wr.cell? (Ad p 4)=σ (ι κ x.tp):=b.J.cell 4;have c5:wr.cell? (Ad p 5)=σ (ι κ x.tn):=b.J.cell 5;have f2:=b.J.fz 2;have f3:=b.J.fz 3;have f4:=b.J.fz 4;have f5:=b.J.fz 5;go_wp2_with fail;go_quiet(fail);go_wp2_with fail;go_quiet(fail);go_wp2;go_returns;refine⟨rfl,_,(b.J.drewN _).tok 0 ⟨#[]⟩ x.S.size 0,⟨rfl,Nat.zero_lt_succ _,⟨by show(-9223372036854775808:Int)<=0;decide,by show(0:Int)<=9223372036854775807;decide⟩,λe=>?_,λ_=>⟨rfl,rfl,?_⟩⟩,(y.J.drewN _).tok _ _ _ _⟩;{rw[i.J]at e;omega};exact i.J.symm
structure lh where
 op:ByteArray
 pl:Nat
 first:Nat
 a:Nat
 b:Nat
 n:Int
 s:ByteArray
def vE(x:lh):List υ:=[θ x.op,ι κ x.pl,ι κ x.first,ι κ x.a,ι κ x.b,ι κ x.n,θ x.s]
def px(l:List lh):List υ:=l.flatMap vE
theorem TR(a:List lh):(px a).length=a.length*7:=by induction a with|nil=>rfl|cons x a b=>simp[px,vE]at b ⊢;omega
theorem PT(a:List lh)(x:lh):px (a++[x])=px a++vE x:=by simp[px]
theorem Cn(b:List lh)(a c:Nat)(f:c<7):(px b)[a*7+c]?=(b[a]?).bind λx=>(vE x)[c]?:=by induction b generalizing a with|nil=>simp[px]|cons x b e=>have d:px (x::b)=vE x++px b:=(by simp[px]);rw[d];cases a with|zero=>(rw[cD (by simp[vE];omega)];simp)|succ a=>rw[bp (by simp[vE];omega)];have:(a+1)*7+c - (vE x).length=a*7+c:=(by simp[vE];omega);rw[this,e];simp
structure Rest (x x':gO):Prop where
 S:x'.S=x.S
 deep:x'.deep=x.deep
 word:x'.word=x.word
 KU:x'.KU=x.KU
 KV:x'.KV=x.KV
 KW:x'.KW=x.KW
 KX:x'.KX=x.KX
 names:x'.names=x.names
 kinds:x'.kinds=x.kinds
 rows:x'.rows=x.rows
 cond:x'.cond=x.cond
 fD:x'.fD=x.fD
theorem Rest.refl(x:gO):Rest x x:=⟨rfl,rfl,rfl,rfl,rfl,rfl,rfl,rfl,rfl,rfl,rfl,rfl⟩
theorem Rest.trans{x c d:gO}(a:Rest x c)(b:Rest c d):Rest x d:=
 ⟨b.S.trans a.S,b.deep.trans a.deep,b.word.trans a.word,b.KU.trans a.KU,b.KV.trans a.KV,b.KW.trans a.KW,b.KX.trans a.KX,b.names.trans a.names,b.kinds.trans a.kinds,b.rows.trans a.rows,b.cond.trans a.cond,b.fD.trans a.fD⟩
def Co(x:gO):Mode->Prop
 |.live t ts=>x.e=0/\nO x.tk x.tt x.tn t.k/\x.tp=t.pl/\(t.k.ends=false->ts=dv x.S x.pos)/\(t.k.ends=true->ts=[])
 |.dead e b=>x.e=e/\x.bad=b/\e≠0
structure iX (K:Nat->Prop)(w:ω)(p:Nat)(x:gO)(m:Mode)(ns:List lh):Prop where
 pen:uA w p x
 laid:Laid w
 p0:0<p
 Cp:x.S.size<=300
 pos:x.pos<=x.S.size+1
 tk:x.tk<256
 tn:cR x.tn
 tp:x.tp<=x.S.size
 mode:Co x m
 own:w.ownsRow 0 233 7 x.nodes ns.length (px ns)
 apart:x.nodes.ownBlock≠σ p
 k0:K 0
 kp:¬K p
 kv:∀g,x.nodes.ownBlock=σ g->¬K g
 old:∀k,K k->k<w.heap.size
theorem iX.other{K:Nat->Prop}{w:ω}{p:Nat}{x:gO}{m:Mode}{ns:List lh}(b:iX K w p x m ns):∀a,K a->Other p w a:=
 λa c=>⟨λd=>b.kp (d ▸ c),b.old a c⟩
theorem Cq(S:ByteArray)(b:Nat)(c:b<S.size)(a:(ez S b c).1.ends=true):(ez S b c).1=.bad:=by
 revert a;unfold ez;simp only;repeat' split
 all_goals intro a
 all_goals first|rfl|(simp[Tk.ends]at a)
theorem PU(S:ByteArray)(a:Nat)(c:a<S.size):(ez S a c).2<=S.size+1:=by by_cases b:(ez S a c).1.ends=true;{have d:=fY S da a (by omega);have e:=fY S cX a (by omega);have f:=fY S fX (a+1) (by omega);revert b;unfold ez;simp only;(repeat' split);(all_goals intro b);all_goals first|(simp[Tk.ends]at b;done)|(simp only;omega)};have:=(oF S a c (by simpa using b)).2;omega
theorem Hf{K:Nat->Prop}{w:ω}{p:Nat}{x:gO}{m:Mode}{ns:List lh}(a:iX K w p x m ns)(N:∀t A,m=.live t A->t.k.ends=false) :
 Calls prog 22 #[π (σ ⟨p,0,ν⟩)] w λE u=>
 E=τ (.tuple #[])/\∃d,iX K u p d m.next ns/\Rest x d/\d.nodes=x.nodes/\aY K w u:=by refine(PR p x w a.pen a.laid a.p0 a.Cp a.pos).mono ?_;rintro E u ⟨rfl,d,L,c,e⟩;refine⟨rfl,d,?_,?_,?_,e.mono a.other⟩;{have n:d.S=x.S:=(by rw[c.same]);have o:d.e=x.e:=(by rw[c.same]);have G:d.bad=x.bad:=(by rw[c.same]);have v:d.nodes=x.nodes:=(by rw[c.same]);have R:=eP x.S bS x.pos;have F:d.pos<=x.S.size+1/\d.tp<=x.S.size:=(by by_cases b:aP x.S bS x.pos<x.S.size;{obtain⟨f,i,j⟩:=c.tok b;rw[i,j];refine⟨PU x.S _ b,by omega⟩};obtain⟨f,i,j⟩:=c.fin b;rw[i,j];refine⟨?_,ae _⟩;by_cases O:x.pos<=x.S.size;{have:=fY x.S bS x.pos O;omega};rw[iG _ _ _ (by omega)];exact a.pos);refine⟨L,a.laid.keeps e a.p0,a.p0,by rw[n];exact a.Cp,by rw[n];exact F.1,c.k,c.n,by rw[n];exact F.2,?_,?_,by rw[v];exact a.apart,a.k0,a.kp,by rw[v];exact a.kv,λz y=>ai (a.old z y) e.size⟩;{have B:=a.mode;cases m with|dead C P=>(obtain⟨f,i,j⟩:=B;exact⟨by rw[o];exact f,by rw[G];exact i,j⟩)|live t A=>obtain⟨f,i,j,I,Q⟩:=B;have g:=I (N t A rfl);by_cases b:aP x.S bS x.pos<x.S.size;{obtain⟨k,s,D⟩:=c.tok b;by_cases r:(ez x.S (aP x.S bS x.pos) b).1.ends=true;{have l:dv x.S x.pos=[⟨.bad,aP x.S bS x.pos⟩]:=(by rw[dv];simp only[dif_pos b,dif_pos r]);rw[l]at g;subst g;have M:(ez x.S (aP x.S bS x.pos) b).1=.bad:=Cq x.S _ b r;rw[M]at k;exact⟨by rw[o];exact f,k,s,λa=>by simp[Tk.ends]at a,λ_=>rfl⟩};have l:dv x.S x.pos=⟨(ez x.S (aP x.S bS x.pos) b).1,aP x.S bS x.pos⟩::dv x.S (ez x.S (aP x.S bS x.pos) b).2:=(by rw[dv];simp only[dif_pos b,dif_neg r]);rw[l]at g;subst g;exact⟨by rw[o];exact f,k,s,λ_=>by rw[n,D],λa=>absurd a r⟩};obtain⟨k,s,D⟩:=c.fin b;have l:dv x.S x.pos=[⟨.stop,x.S.size⟩]:=(by rw[dv];simp only[dif_neg b]);rw[l]at g;subst g;exact⟨by rw[o];exact f,k,s,λa=>by simp[Tk.ends]at a,λ_=>rfl⟩};rw[v];refine a.own.kept (w':=u) (row:=σ p) ⟨e.os,e.tape,e.output,e.size,λz y H=>e.block z ⟨λC=>H (by rw[C]),y⟩⟩ (.inr a.apart)};{rw[c.same];exact⟨rfl,rfl,rfl,rfl,rfl,rfl,rfl,rfl,rfl,rfl,rfl,rfl⟩};rw[c.same]
theorem WH(w:ω)(a b:Obj):δ w.heap.size w ((w.alloc a).alloc b).drew/\((w.alloc a).alloc b).drew.heap[w.heap.size]?=σ a/\((w.alloc a).alloc b).drew.heap[w.heap.size+1]?=σ b/\((w.alloc a).alloc b).drew.heap.size=w.heap.size+2:=
 ⟨aH (((ah _ _).alloc (ae _) a).alloc (by simp) b),heap_alloc2_old w a b,heap_alloc2_new w a b,by
  show((w.heap.push a).push b).size=_;simp⟩
section
variable {K:Nat->Prop} {w:ω} {p:Nat} {x:gO} {m:Mode} {ns:List lh}
theorem ak9(c:Co x m)(d:ByteArray):isV x d=m.is d:=by cases m with|dead i g=>(obtain⟨b,_,e⟩:=c;have:¬x.e=0:=(by rw[b];exact e);unfold isV Mode.is Mode.tk;simp[this])|live tk k=>obtain⟨b,a,_⟩:=c;obtain⟨f,j⟩:=tk;unfold isV;cases f<;>simp only[nO]at a;(case stop=>simp[a,Mode.is,Mode.tk]);(case bad=>simp[a,Mode.is,Mode.tk]);(case word s=>simp[b,a.1,a.2.1,Mode.is,Mode.tk]);(case name s=>simp[a.1,Mode.is,Mode.tk]);(case num n=>simp[a.1,Mode.is,Mode.tk]);(case str s=>simp[a.1,Mode.is,Mode.tk]);case sign s=>simp[b,a.1,a.2,Mode.is,Mode.tk]
theorem ajs(b:iX K w p x m ns)(a:ByteArray):Calls prog 35 #[π (σ (Ad p 0)),θ a] w λc d=>
 c=τ (.bool (m.is a))/\w=d:=by rw[<- ak9 b.mode a];exact ak0 p x a w b.pen
theorem iX.wrote{b:gO}{i:Mode}(a:iX K w p x m ns)(l:uA n p b)(c:aY (Other p w) w n)(d:Rest x b)(f:b.nodes=x.nodes)
 (t:b.pos<=x.S.size+1) (u:b.tk<256) (r:cR b.tn) (s:b.tp<=x.S.size) (o:Co b i):iX K n p b i ns:=
 ⟨l,a.laid.keeps c a.p0,a.p0,by rw[d.S];exact a.Cp,by rw[d.S];exact t,u,r,by rw[d.S];exact s,o,
  by rw[f];exact a.own.kept (w':=n) (row:=σ p) ⟨c.os,c.tape,c.output,c.size,λg e k=>c.block g ⟨λj=>k (by rw[j]),e⟩⟩ (.inr a.apart),
  by rw[f];exact a.apart,a.k0,a.kp,by rw[f];exact a.kv,λg e=>ai (a.old g e) c.size⟩
theorem Hg(a:iX K w p x m ns)(b c:Nat)(l:b≠0):Calls prog 24 #[π (σ (Ad p 0)),ι κ b,ι κ c] w λi e=>
 i=τ (.tuple #[])/\∃f,iX K e p f (m.fail b c) ns/\Rest x f/\f.nodes=x.nodes/\aY K w e:=by refine(abV p x w a.pen b c).mono ?_;rintro i e ⟨rfl,rfl⟩;refine⟨rfl,?_⟩;cases m with|dead o n=>(obtain⟨d,_,j⟩:=a.mode;rw[aE (by rw[d];exact j)];exact⟨x,a,Rest.refl x,rfl,aY.refl _ _⟩)|live r s=>obtain⟨d,_⟩:=a.mode;rw[aF d];have k:uA ((w.setCell (Ad p 6) (ι κ b)).setCell (Ad p 7) (ι κ c)) p { x with e:=b,bad:=c }:=(by have d:uA (w.setCell (Ad p 6) (ι κ b)) p { x with e:=b }:=a.pen.set 6 _ (by simp[jy]);exact d.set 7 _ (by simp[jy]));have g:aY (Other p w) w ((w.setCell (Ad p 6) (ι κ b)).setCell (Ad p 7) (ι κ c)):=((aY.refl _ _).own 6 _).own 7 _;exact⟨_,a.wrote k g ⟨rfl,rfl,rfl,rfl,rfl,rfl,rfl,rfl,rfl,rfl,rfl,rfl⟩ rfl a.pos a.tk a.tn a.tp ⟨rfl,rfl,l⟩,⟨rfl,rfl,rfl,rfl,rfl,rfl,rfl,rfl,rfl,rfl,rfl,rfl⟩,rfl,g.mono a.other⟩
theorem iX.also{K':Nat->Prop}(a:iX K w p x m ns)(d:δ w.heap.size w n)(g:∀c,K' c->K c\/(w.heap.size<=c/\c<n.heap.size))(k:K' 0):iX K' n p x m ns:=by
 have j:=a.pen.lt;refine⟨a.pen.kG (d.block p j),a.laid.below d,a.p0,a.Cp,a.pos,a.tk,a.tn,a.tp,a.mode,
  a.own.kept (w':=n) (row:=ν) ⟨d.os,d.tape,d.output,d.size,λc e _=>d.block c e⟩ (by cases x.nodes.ownBlock<;>simp),a.apart,k,?_,?_,?_⟩
 {intro e;rcases g p e with b|b;{exact a.kp b};omega};{intro f i e;rcases g f e with b|b;{exact a.kv f i b};have:=(a.own.lt f i).2;omega};intro c e;rcases g c e with b|b;{exact ai (a.old c b) d.size};exact b.2
theorem iX.less{K':Nat->Prop}(a:iX K w p x m ns)(d:∀c,K' c->K c)(f:K' 0):iX K' w p x m ns:=
 ⟨a.pen,a.laid,a.p0,a.Cp,a.pos,a.tk,a.tn,a.tp,a.mode,a.own,a.apart,f,λb=>a.kp (d p b),λe g b=>a.kv e g (d e b),λc b=>a.old c (d c b)⟩
theorem iX.below(a:iX K w p x m ns)(b:δ w.heap.size w n):iX K n p x m ns:=a.also b (λ_ c=>.inl c) a.k0
theorem iX.ne(b:iX K w p x m ns){r:Nat}(c:K r):r≠p/\x.nodes.ownBlock≠σ r:=
 ⟨λa=>b.kp (a ▸ c),λa=>b.kv r a c⟩
theorem iX.put(a:iX K w p x m ns)(e:l≠p)(f:x.nodes.ownBlock≠σ l)(g:¬K l)(i:Nat)(c:υ):iX K (w.setCell (Ad l i) c) p x m ns:=by
 have k:l≠0:=λb=>g (b ▸ a.k0);refine⟨a.pen.kG (az _ _ _ _ (Ne.symm e)),?_,a.p0,a.Cp,a.pos,a.tk,a.tn,a.tp,a.mode,
  a.own.kept (grownBy_setCell w (Ad l i) c) (.inr f),a.apart,a.k0,a.kp,a.kv,λo j=>by simpa[World.setCell]using a.old o j⟩
 intro d r n;have b:=cy (w:=w) (w':=w.setCell (Ad l i) c) (a:=(Ad 0 d)) (az _ _ _ _ (Ne.symm k));exact b.trans (a.laid d r n)
theorem iX.drewN(a:iX K w p x m ns)(b:Nat):iX K (w.drewN b) p x m ns:=⟨a.pen,a.laid,a.p0,a.Cp,a.pos,a.tk,a.tn,a.tp,a.mode,a.own,a.apart,a.k0,a.kp,a.kv,a.old⟩
theorem iX.drew(a:iX K w p x m ns):iX K w.drew p x m ns:=⟨a.pen,a.laid,a.p0,a.Cp,a.pos,a.tk,a.tn,a.tp,a.mode,a.own,a.apart,a.k0,a.kp,a.kv,a.old⟩
theorem Hh{a:Tok}{d:List Tok}(b:(Mode.live a d).is v=true):a.k.ends=false:=by obtain⟨c,e⟩:=a;cases c<;>simp[Mode.is,Mode.tk,Tk.ends]at b ⊢
theorem zA(b:Co x m)(a:Nat):m.fail a x.tp=m.wrong a:=by cases m with|dead e d=>rfl|live f g=>obtain⟨_,_,c,_⟩:=b;unfold Mode.wrong Mode.place;rw[c]
end
theorem agD{K:Nat->Prop}{w:ω}{p:Nat}{x:gO}{m:Mode}{ns:List lh}(j:iX K w p x m ns)(a:ByteArray):Calls prog 40 #[π (σ (Ad p 0)),θ a] w λe r=>
 e=τ (ι κ x.tp)/\∃n,iX K r p n (m.take a) ns/\Rest x n/\n.nodes=x.nodes/\aY K w r:=by have c4:w.cell? (Ad p 4)=σ (ι κ x.tp):=j.pen.cell 4;have d:=au j;clear j;go_in;go_wp2_with fail;refine(ajs d.J a).mono ?_;rintro e s ⟨rfl,rfl⟩;cases BT:m.is a;{go_wp2_with fail;refine(Hg d.J 2 x.tp (by decide)).mono ?_;rintro e s ⟨rfl,o,b,k,l,c⟩;have f:=au b;have g:=au c;clear b c;go_wp2_with fail;go_ret;refine⟨rfl,o,?_,k,l,g.J⟩;have i:m.take a=m.fail 2 x.tp:=(by unfold Mode.take;rw[BT,zA d.J.mode];rfl);rw[i];exact f.J};go_wp2_with fail;refine(Hf d.J (λa u t=>by subst t;exact Hh BT)).mono ?_;rintro e s ⟨rfl,o,b,k,l,c⟩;have f:=au b;have g:=au c;clear b c;go_wp2_with fail;go_ret;refine⟨rfl,o,?_,k,l,g.J⟩;have i:m.take a=m.next:=(by unfold Mode.take;rw[BT];rfl);rw[i];exact f.J
theorem agE{x:gO}{m:Mode}(e:Co x m)(i:x.e=0)(l:x.tk=97):m.name=((x.tt,x.tp),m.next)/\∀a c,m=.live a c->a.k.ends=false:=by cases m with|dead d k=>(obtain⟨f,_,b⟩:=e;exact absurd (f.symm.trans i) b)|live a c=>obtain⟨f,g,b,_⟩:=e;obtain⟨j,n⟩:=a;cases j<;>simp only[nO]at g;(case stop=>omega);(case bad=>omega);(case word s=>omega);(case num s=>omega);(case str s=>omega);(case sign s=>omega);case name s=>refine⟨?_,λa c d=>by cases d;rfl⟩;simp only at b;simp[Mode.name,Mode.tk,Mode.place,g.2,b]
theorem ab6{x:gO}{m:Mode}(b:Co x m)(d:¬(x.e=0/\x.tk=97)):m.name=((ByteArray.empty,0),m.wrong 2):=by cases m with|dead i g=>rfl|live f l=>obtain⟨c,a,j,_⟩:=b;obtain⟨e,k⟩:=f;cases e<;>simp only[nO]at a;(case name s=>exact absurd ⟨c,a.1⟩ d);all_goals rfl
def ab7(n:ByteArray×Nat):υ:=.agg #[θ n.1,ι κ n.2]
theorem agF{K:Nat->Prop}{w:ω}{p:Nat}{x:gO}{m:Mode}{ns:List lh}(b:iX K w p x m ns):Calls prog 37 #[π (σ (Ad p 0))] w λD F=>
 D=τ (ab7 m.name.1)/\∃v,iX K F p v m.name.2 ns/\Rest x v/\v.nodes=x.nodes/\aY K w F:=by
 have c2:w.cell? (Ad p 2)=σ (ι .u8 x.tk):=b.pen.cell 2;have c3:w.cell? (Ad p 3)=σ (θ x.tt):=b.pen.cell 3;have c4:w.cell? (Ad p 4)=σ (ι κ x.tp):=b.pen.cell 4;have R:w.cell? (Ad p 6)=σ (ι κ x.e):=b.pen.cell 6;have T:=b.pen.lt;have c:=au b;clear b;have k:(x.e=0/\x.tk=97/\((x.e:Int)==0)=true/\((x.tk:Int)==97)=true/\m.name.1=(x.tt,x.tp)/\m.name.2=m.next/\∀E P,m=.live E P->E.k.ends=false)\/(x.e=0/\¬x.tk=97/\((x.e:Int)==0)=true/\((x.tk:Int)==97)=false/\m.name.1=(ByteArray.empty,0)/\m.name.2=m.fail 2 x.tp)\/(¬x.e=0/\((x.e:Int)==0)=false/\m.name.1=(ByteArray.empty,0)/\m.name.2=m.fail 2 x.tp):=by
  have z:¬(x.e=0/\x.tk=97)->m.name.1=(ByteArray.empty,0)/\m.name.2=m.fail 2 x.tp:=λb=>by rw[ab6 c.J.mode b,zA c.J.mode];exact⟨rfl,rfl⟩
  by_cases d:x.e=0;{by_cases a:x.tk=97;{obtain⟨j,u⟩:=agE c.J.mode d a;exact .inl ⟨d,a,by rw[dO];omega,by rw[dO];omega,by rw[j],by rw[j],u⟩};exact .inr (.inl ⟨d,a,by rw[dO];omega,by rw[aK];omega,z (λb=>a b.2)⟩)};exact .inr (.inr ⟨d,by rw[aK];omega,z (λb=>d b.1)⟩)
 rcases k with⟨d,a,y,I,s,r,L⟩|⟨d,a,y,I,s,r⟩|⟨d,y,s,r⟩;all_goals go_in;go_wp2_with fail;go_region;go_wp2_with fail;generalize hW:World.drew _=W;obtain⟨g,A,B,M⟩:δ w.heap.size w W/\W.heap[w.heap.size]?=σ (Yr ⟨#[]⟩ 0)/\W.heap[w.heap.size+1]?=σ (Yr x.tt x.tp)/\W.heap.size=w.heap.size+2:=(by rw[<- hW];exact WH w _ _);have C:iX (λe=>K e\/e=w.heap.size\/e=w.heap.size+1) W p x m ns:=c.J.also g (λe a=>by rcases a with a|a|a;exact .inl a;exact .inr (by omega);exact .inr (by omega)) (.inl c.J.k0);(first|refine(Hf C L).mono ?_|refine(Hg C 2 x.tp (by decide)).mono ?_);rintro D f ⟨rfl,Q,j,u,k,n⟩;have l:f.heap[w.heap.size]?=σ _:=(n.block w.heap.size (.inr (.inl rfl))).trans A;have t:f.heap[w.heap.size+1]?=σ _:=(n.block (w.heap.size+1) (.inr (.inr rfl))).trans B;have N:f.cell? (Ad w.heap.size 0)=σ (θ ⟨#[]⟩):=(by simp[World.cell?,l]);have O:f.cell? (Ad w.heap.size 1)=σ (ι κ 0):=(by simp[World.cell?,l]);have U:f.cell? (Ad (w.heap.size+1) 0)=σ (θ x.tt):=(by simp[World.cell?,t]);have V:f.cell? (Ad (w.heap.size+1) 1)=σ (ι κ x.tp):=(by simp[World.cell?,t]);have X:f.frozen? (Ad w.heap.size 0)=false:=(by simp[World.frozen?,l]);have Y:f.frozen? (Ad w.heap.size 1)=false:=(by simp[World.frozen?,l]);have i:=j.ne (r:=w.heap.size) (.inr (.inl rfl));have o:¬K w.heap.size:=λa=>bM _ (c.J.old _ a);have G:=au (j.less (K':=K) (λe a=>.inl a) c.J.k0);have H:=au ((aY.uz (K:=K) ⟨g.os,g.tape,g.output,g.size,λe a _=>g.block e a⟩ c.J.old).trans (n.mono (λe a=>.inl a)));clear j n l t g A B M hW;go_wp2_with fail;(try simp only[Exit.inBlock,Exit.then]);refine aD (v:=ab7 m.name.1) (by rw[s];simp[results,results37,go_sem,ab7,N,O];try rfl) rfl ?_;refine⟨rfl,Q,?_,u,k,?_⟩;{rw[r];exact(G.J.put i.1 (by rw[k]at i ⊢;exact i.2) o 0 _).put i.1 (by rw[k]at i ⊢;exact i.2) o 1 _};exact(H.J.setCell (p:=(Ad w.heap.size 0)) o _).setCell (p:=(Ad w.heap.size 1)) o _
theorem xL(a:Nat)(w:ω):Calls prog 76 #[ι .u8 a] w λd e=>d=τ (.bool (iV a))/\w=e:=by unfold iV;by_cases f:(97:Int)<=a;{by_cases g:(a:Int)<=122;{go_in;go_wp2;go_ret;have b:97<=a:=(by omega);have c:a<=122:=(by omega);simp[b,c]};go_in;go_wp2;go_ret;have b:97<=a:=(by omega);have c:¬a<=122:=(by omega);simp[b,c]};go_in;go_wp2;go_ret;have b:¬97<=a:=(by omega);simp[b]
theorem zE(a:Nat)(w:ω):Calls prog 78 #[ι .u8 a] w λd e=>d=τ (.bool (jP a))/\w=e:=by unfold jP;by_cases f:(48:Int)<=a;{by_cases g:(a:Int)<=57;{go_in;go_wp2;go_ret;have b:48<=a:=(by omega);have c:a<=57:=(by omega);simp[b,c]};go_in;go_wp2;go_ret;have b:48<=a:=(by omega);have c:¬a<=57:=(by omega);simp[b,c]};go_in;go_wp2;go_ret;have b:¬48<=a:=(by omega);simp[b]
theorem Gw(a:ByteArray)(w:ω)(j:a.size<=300):Calls prog 106 #[θ a,.func (.func 76) #[] #[]] w λg f=>g=τ (ι κ (aP a da 0))/\w=f:=by
 go_in;go_wp2_with fail;go_loopw[8] (λd wr=>∃b:Nat,b<=a.size/\d=ι κ b/\wr=w/\Hid (aP a da 0=aP a da b)) (λd _=>a.size - (intOf d).toNat);case atStart=>exact⟨0,aI _,rfl,rfl,au rfl⟩
 case round=>obtain⟨b,k,rfl,rfl,c⟩:=hrel;by_cases e:b<a.size;{have l:(b:Int)<(a.size:Int):=(by omega);cases hb:iV a[b].toNat;{go_wp2_with(go_at_call 76;refine(xL _ _).mono ?_;rintro i f ⟨rfl,rfl⟩);go_ret;refine⟨?_,rfl⟩;rw[c.J,eY a da b e hb];rfl};go_wp2_with(go_at_call 76;refine(xL _ _).mono ?_;rintro i f ⟨rfl,rfl⟩);go_roundw;(case rel=>exact⟨b+1,by omega,by go_num,by first|rfl|trivial,au (c.J.trans (dQ a da b e hb))⟩);case measure=>simp[intOf];omega};go_wp2_with fail;go_ret;refine⟨?_,rfl⟩;rw[c.J,iG a da b e];have:a.size=b:=(by omega);rw[this];rfl
theorem Iq(a:ByteArray)(w:ω)(j:a.size<=300):Calls prog 106 #[θ a,.func (.func 78) #[] #[]] w λg f=>g=τ (ι κ (aP a cX 0))/\w=f:=by
 go_in;go_wp2_with fail;go_loopw[8] (λd wr=>∃b:Nat,b<=a.size/\d=ι κ b/\wr=w/\Hid (aP a cX 0=aP a cX b)) (λd _=>a.size - (intOf d).toNat);case atStart=>exact⟨0,aI _,rfl,rfl,au rfl⟩
 case round=>obtain⟨b,k,rfl,rfl,c⟩:=hrel;by_cases e:b<a.size;{have l:(b:Int)<(a.size:Int):=(by omega);cases hb:jP a[b].toNat;{go_wp2_with(go_at_call 78;refine(zE _ _).mono ?_;rintro i f ⟨rfl,rfl⟩);go_ret;refine⟨?_,rfl⟩;rw[c.J,eY a cX b e hb];rfl};go_wp2_with(go_at_call 78;refine(zE _ _).mono ?_;rintro i f ⟨rfl,rfl⟩);go_roundw;(case rel=>exact⟨b+1,by omega,by go_num,by first|rfl|trivial,au (c.J.trans (dQ a cX b e hb))⟩);case measure=>simp[intOf];omega};go_wp2_with fail;go_ret;refine⟨?_,rfl⟩;rw[c.J,iG a cX b e];have:a.size=b:=(by omega);rw[this];rfl
