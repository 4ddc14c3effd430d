import Derived.Test.YtfeckmaleonjjaaGreatDoorFAB
import Derived.BigQuiet
import Derived.Handy
import Derived.Deep.RegionLaw
set_option maxHeartbeats 0
set_option maxRecDepth 100000
namespace Go.Proofs.YtfeckmaleonjjaaGreatDoor
open Go.World renaming cell?→Ξ
open Go.RowKit
open _root_.Go.Proofs.Tryz
open Option renaming some→σ,none→ν
open Go.IntKind renaming i64→κ
open Go.Ending renaming returned→τ
open Go renaming World→ω,Value→υ
open Go.RowKit renaming Below→δ
open Go.Value renaming int→ι,string→θ,pointer→π
variable{v:Γ}{n:ω}{l i:Nat}
def Xu(k:Nat)(t:Γ)(p:Nat)(n:Int):υ:=.agg #[ι .u8 k,θ t,ι κ p,ι κ n]
def oM(k:Nat)(t:Γ)(n:Int):Tk->Prop
 |.stop=>k=0
 |.bad=>k=33
 |.cU s=>k=119/\t=s/\n=0
 |.aI s=>k=97/\t=s
 |.num m=>k=110/\n=m
 |.str s=>k=115/\t=s
 |.sign s=>k=112/\t=s
theorem ib{w:ω}(a:δ l n w){p:Addr}(e:l<=p.block)(d:υ):δ l n (w.setCell p d):=
 ⟨a.os,a.tape,a.output,by simp[World.setCell];exact a.size,λc b=>(aL _ _ _ _ (by omega)).trans (a.block c b)⟩
theorem aP{w:ω}(a:δ l n w):δ l n w.drew:=⟨a.os,a.tape,a.output,a.size,a.block⟩
theorem extract_zero(S:Γ)(b a:Nat)(d:b<a)(e:a<=S.size)(c:0<(S.extract b a).size):(S.extract b a)[0]=S[b]'(by omega):=by simp[ByteArray.getElem_extract]
theorem wB{d:Program}(w:ω)(e:TypeId)(c:Γ)(f:d.underlying e=σ .string)(b a:Nat)(g:b<=a)(i:a<=c.size) :
 (Instr.slice e (θ c) (σ (ι κ b)) (σ (ι κ a)) ν).run d w=.ok (θ (c.extract b a)) w:=by simp[Instr.slice,run_underlying f,Instr.sliceBounds,run_sliceBound, *]
def sC(S:Γ)(i e:Nat)(h:i<S.size):Tk:=
 if dP S[i]then(if 8<e - i then .bad else if cY.any (ct (S.extract i e))then .cU (S.extract i e)else .aI (S.extract i e))
 else if 19<e - i\/9223372036854775807<oK (S.extract i e).data.toList then .bad else .num (oK (S.extract i e).data.toList)
theorem afa(a:Dx v=σ l):l<=9223372036854775807:=by unfold Dx at a;split at a;{cases a};cases a;omega
theorem Laid.aU{w:ω}(d:Laid w)(e:δ w.heap.size w n):Laid n:=by intro b g f;have a:=d b g f;have c:0<w.heap.size:=bT _ _ a;exact(e.cell (p:=⟨0,b,ν⟩) c).trans a
theorem aa1(p:Nat)(x:gN)(b:Nat)(w:ω)(g:uO w p x)(C:Laid w)(O:x.pos<b)(P:b<=x.S.size)
 (B:dP (x.S[x.pos]'(by omega))=false->∀i (U:i<(x.S.extract x.pos b).size),dV (x.S.extract x.pos b)[i]=true) :
 Calls prog 30 #[π (σ ⟨p,0,ν⟩),ι κ b] w λV X=>
 ∃r G d,V=τ (Xu r G x.pos d)/\oM r G d (sC x.S x.pos b (by omega))/\r<256/\dK d/\δ w.heap.size w X:=by
 have Z:Ξ w ⟨p,0,ν⟩=σ (θ x.S):=g.cell 0;have c1:Ξ w ⟨p,1,ν⟩=σ (ι κ x.pos):=g.cell 1;have cK:=g.lt;have E:(x.S.extract x.pos b).size=b - x.pos:=by rw[dJ];omega
 have D:=extract_zero x.S x.pos b O P (by omega);have L:=C;have Y:=g;clear C g;have g1:(x.pos:Int)<=b:=by omega
 have g2:(b:Int)<=x.S.size:=by omega
 have g3:¬(b:Int)<x.pos:=by omega
 have g4:¬(x.S.size:Int)<b:=by omega
 have⟨a,j⟩:=nm (x.S.extract x.pos b);have T:a.size=b - x.pos:=by rw[j];exact E
 have A:∀h0:0<a.size,a[0]=x.S[x.pos]'(by omega):=by subst j;exactλ_=>D
 have y:dP (x.S[x.pos]'(by omega))=false->∀i (U:i<a.size),dV a[i]=true:=by subst j;exact B
 have o:=ak j;have M:=ak A;have I:=ak y;clear j A y B D E;go_in;go_wp2;go_region;rw[<- o.J];go_wp2_with fail;have R:0<a.size:=by omega
 refine(yb _ _).mono ?_;rintro v H ⟨rfl,rfl⟩;have z:jO a[0].toNat=dP x.S[x.pos]:=by rw[<- M.J R];rfl
 rw[z];have u:∀(s t:Obj),Laid ((w.alloc s).alloc t).drew:=λs t=>L.aU (aP (((aj _ _).alloc (ae _) s).alloc (by simp) t));have N:=ak u;clear u z;by_cases n:dP x.S[x.pos]=true
 .rw[n];go_wp21;refine(O7 a _ (N.J _ _)).mono ?_;rintro v H ⟨rfl,rfl⟩;have k:sC x.S x.pos b (by omega)=if 8<b - x.pos then .bad else if cY.any (ct a)then .cU a else .aI a:=by
   unfold sC;rw[aN n,o.J]
  have e:=ak k;clear k;by_cases l:8<b - x.pos;{have Q:=aX.2 l;have c:sC x.S x.pos b (by omega)=.bad:=(by rw[e.J,aN l]);have f:=ak c;clear c;cases cY.any (ct a);{go_wp2;go_returns;exact⟨33,a,0,rfl,by rw[f.J];exact rfl,by decide,by unfold dK;decide,aP (((aj _ _).alloc (ae _) _).alloc (by simp) _)⟩};go_wp2;go_returns;exact⟨33,a,0,rfl,by rw[f.J];exact rfl,by decide,by unfold dK;decide,aP (((aj _ _).alloc (ae _) _).alloc (by simp) _)⟩};have Q:¬(8:Int)<a.size:=(by omega);cases ye:cY.any (ct a);{have c:sC x.S x.pos b (by omega)=.aI a:=(by rw[e.J,aH l,ye];rfl);have f:=ak c;clear c;go_wp2;go_returns;exact⟨97,a,0,rfl,by rw[f.J];exact⟨rfl,rfl⟩,by decide,by unfold dK;decide,aP (((aj _ _).alloc (ae _) _).alloc (by simp) _)⟩};have c:sC x.S x.pos b (by omega)=.cU a:=(by rw[e.J,aH l,ye];rfl);have f:=ak c;clear c;go_wp2;go_returns;exact⟨119,a,0,rfl,by rw[f.J];exact⟨rfl,rfl,rfl⟩,by decide,by unfold dK;decide,aP (((aj _ _).alloc (ae _) _).alloc (by simp) _)⟩
 have F:dP x.S[x.pos]=false:=(by simpa using n);rw[F];go_wp21;refine(Tc a _ (I.J F)).mono ?_;rintro v H ⟨rfl,rfl⟩;have k:sC x.S x.pos b (by omega)=(match Dx a with|some d=>.num d|none=>.bad):=(by unfold sC Dx;rw[aH n,T,o.J];split<;>rfl);have e:=ak k;clear k;cases hn:Dx a with|none=>(rw[EW hn];go_wp2;go_returns;exact⟨33,a,0,rfl,by rw[e.J,hn];exact rfl,by decide,by unfold dK;decide,aP (((aj _ _).alloc (ae _) _).alloc (by simp) _)⟩)|some d=>rw[Ly hn];go_wp2;go_returns;exact⟨110,a,d,rfl,by rw[e.J,hn];exact⟨rfl,rfl⟩,by decide,by have:=afa hn;unfold dK;omega,aP (((aj _ _).alloc (ae _) _).alloc (by simp) _)⟩
def uR(S:Γ)(i:Nat)(h:i<S.size):Tk:=if fO S i h=0 then .bad else .sign (S.extract i (i+fO S i h))
theorem tC(w:ω)(a:Obj)(c:Nat):δ w.heap.size w ((w.alloc a).drewN c)/\((w.alloc a).drewN c).heap[w.heap.size]?=σ a:=by have b:δ w.heap.size w (w.alloc a):=(aj _ _).alloc (ae _) a;refine⟨⟨b.os,b.tape,b.output,b.size,b.block⟩,az w a⟩
structure aAM (W:ω)(r:Nat):Prop where
 c0:∃v,Ξ W ⟨r,0,ν⟩=σ v
 c1:∃v,Ξ W ⟨r,1,ν⟩=σ v
 c2:∃v,Ξ W ⟨r,2,ν⟩=σ v
 c3:∃v,Ξ W ⟨r,3,ν⟩=σ v
 fz:∀i,W.frozen? ⟨r,i,ν⟩=false
def uS:Δ UInt8:=[40,41,44,124,58,61,60,62,43,45,42,47,37]
theorem Pc{S:Γ}{h:l<S.size}(a:l+1<S.size)(b:(S[l].toNat=60/\(S[l+1].toNat=62\/S[l+1].toNat=61))\/(S[l].toNat=62/\S[l+1].toNat=61)):fO S l h=2:=by unfold fO;rw[kT a,aN b]
theorem Pd{S:Γ}{h:l<S.size}(c:∀a:l+1<S.size,¬((S[l].toNat=60/\(S[l+1].toNat=62\/S[l+1].toNat=61))\/(S[l].toNat=62/\S[l+1].toNat=61)))(d:S[l]∈uS):fO S l h=1:=by have b:S[l].toNat∈[40,41,44,124,58,61,60,62,43,45,42,47,37]:=fu (f:=UInt8.toNat) d;unfold fO;simp only;rw[aH ?_,aN b];split;{rename_i a;exact c a};omega
theorem M5{S:Γ}{h:l<S.size}(e:∀a:l+1<S.size,¬((S[l].toNat=60/\(S[l+1].toNat=62\/S[l+1].toNat=61))\/(S[l].toNat=62/\S[l+1].toNat=61)))(g:¬S[l]∈uS):fO S l h=0:=by have b:¬S[l].toNat∈[40,41,44,124,58,61,60,62,43,45,42,47,37]:=(by intro d;have:S[l].toNat∈uS.map UInt8.toNat:=d;rw[cP]at this;obtain⟨i,c,f⟩:=this;have:=ju.mp f;subst this;exact g c);unfold fO;simp only;rw[aH ?_,aH b];split;{rename_i a;exact e a};omega
theorem abb(p:Nat)(x:gN)(w:ω)(c:uO w p x)(d:x.pos<x.S.size)(N:x.S.size<=300)(y:x.pos+1<x.S.size)
 (g:(x.S[x.pos].toNat=60/\(x.S[x.pos+1].toNat=62\/x.S[x.pos+1].toNat=61))\/(x.S[x.pos].toNat=62/\x.S[x.pos+1].toNat=61)) :
 Calls prog 32 #[π (σ ⟨p,0,ν⟩)] w λz A=>
 ∃i k j,z=τ (Xu i k x.pos j)/\oM i k j (uR x.S x.pos d)/\k.size=fO x.S x.pos d/\i<256/\dK j/\δ w.heap.size w A:=by
 have D:Ξ w ⟨p,0,ν⟩=σ (θ x.S):=c.cell 0;have E:Ξ w ⟨p,1,ν⟩=σ (ι κ x.pos):=c.cell 1;have F:=c.lt;clear c;have I:(x.pos:Int)<x.S.size:=by omega
 obtain⟨q,e⟩:=nm (x.pos+1:Nat);obtain⟨a,B⟩:∃a:Nat,(x.pos:Int)+2=a:=⟨x.pos+2,by omega⟩;have l:=ak (Pc (h:=d) y g);have O:(x.pos:Int)+1=q:=by omega
 have P:q<x.S.size:=by omega
 have r:(x.S[x.pos].toNat=60/\(x.S[q].toNat=62\/x.S[q].toNat=61))\/(x.S[x.pos].toNat=62/\x.S[q].toNat=61):=by subst e;exact g
 have C:=ak e;clear g e;have L:(q:Int)<x.S.size:=by omega
 have M:(a:Int)<=x.S.size:=by omega
 have u:a<=x.S.size:=by omega
 have v:x.pos<=a:=by omega
 have Q:∀w,(Instr.slice 9 (θ x.S) (σ (ι κ x.pos)) (σ (ι κ a)) ν).run prog w=.ok (θ (x.S.extract x.pos a)) w:=λw=>wB w 9 x.S underlying9 x.pos a v u;have n:(x.S.extract x.pos a).size=2:=by rw[dJ];omega
 have o:uR x.S x.pos d=.sign (x.S.extract x.pos a):=(by unfold uR;rw[l.J,aH (by omega),show x.pos+2=a from by omega]);have t:=ak n;have s:=ak o;clear n o;go_in;go_wp2;go_quiet(fail);go_wp2;go_quiet(fail);go_wp2;go_quiet(fail);rcases r with⟨f,b|b⟩|⟨f,b⟩
 all_goals
  have G:(x.S[x.pos].toNat:Int)=_:=bI Nat.cast f;have H:(x.S[q].toNat:Int)=_:=bI Nat.cast b;clear f b;go_wp2;go_region;go_wp2;go_returns;exact⟨112,_,0,rfl,by rw[s.J];exact⟨rfl,rfl⟩,by rw[t.J,l.J],by decide,by unfold dK;decide,
   ib (ib (ib (ib (tC w _ _).1 (ae _) _) (ae _) _) (ae _) _) (ae _) _⟩
theorem aja(w:ω)(a m:Nat):(w.drewN a).drewN m=w.drewN (a+m):=by simp
theorem ajb(w:ω)(b m a:Nat):((w.drewN b).drewN m).drewN a=w.drewN (b+m+a):=by simp
theorem Hu(p:Nat)(x:gN)(w:ω)(j:uO w p x)(k:x.pos<x.S.size)(h3:x.S.size<=300)
 (y:∀h2:x.pos+1<x.S.size,¬((x.S[x.pos].toNat=60/\(x.S[x.pos+1].toNat=62\/x.S[x.pos+1].toNat=61))\/(x.S[x.pos].toNat=62/\x.S[x.pos+1].toNat=61))) :
 Calls prog 32 #[π (σ ⟨p,0,ν⟩)] w λaa w'=>
 ∃s F E,aa=τ (Xu s F x.pos E)/\oM s F E (uR x.S x.pos k)/\F.size=fO x.S x.pos k/\s<256/\dK E/\δ w.heap.size w w':=by
 have c0:Ξ w ⟨p,0,ν⟩=σ (θ x.S):=j.cell 0;have c1:Ξ w ⟨p,1,ν⟩=σ (ι κ x.pos):=j.cell 1;have cK:=j.lt;have HP:=j;clear j;have g1:(x.pos:Int)<x.S.size:=by omega
 have⟨q,A⟩:=nm (x.pos+1:Nat);have hq:(x.pos:Int)+1=q:=by omega
 have H:∀h2:q<x.S.size,¬((x.S[x.pos].toNat=60/\(x.S[q].toNat=62\/x.S[q].toNat=61))\/(x.S[x.pos].toNat=62/\x.S[q].toNat=61)):=by subst A;exact y
 have g7:q<=x.S.size:=by omega
 have g8:x.pos<=q:=by omega
 have ac:∀w,(Instr.slice 9 (θ x.S) (σ (ι κ x.pos)) (σ (ι κ q)) ν).run prog w=.ok (θ (x.S.extract x.pos q)) w:=λw=>wB w 9 x.S underlying9 x.pos q g8 g7;have M:(x.S.extract x.pos q).size=1:=by rw[dJ];omega
 have I:x.S[x.pos]∈uS->fO x.S x.pos k=1/\uR x.S x.pos k=.sign (x.S.extract x.pos q):=λl=>by
  have o:=Pd (h:=k) y l;exact⟨o,by unfold uR;rw[o,aH (by omega),show x.pos+1=q from by omega]⟩
 have N:¬x.S[x.pos]∈uS->fO x.S x.pos k=0/\uR x.S x.pos k=.bad:=λl=>by
  have o:=M5 (h:=k) y l;exact⟨o,by unfold uR;rw[o,aN rfl]⟩
 have X:=ak M;have V:=ak I;have U:=ak N;have T:=ak H;have HQ:=ak A;clear M I N y H A;refine(Classical.em (q<x.S.size)).elim (λP=>?a) (λP=>?b);(case' a=>have g2:(q:Int)<x.S.size:=(by omega);have B:=T.J P;refine(Classical.em ((x.S[x.pos].toNat:Int)=60)).elim (λD=>?c) (λD=>?d);(case' c=>have e1:((x.S[q].toNat:Int)==62)=false:=(by rw[aY];omega);have e2:((x.S[q].toNat:Int)==61)=false:=(by rw[aY];omega);clear B);case' d=>have Z:((x.S[x.pos].toNat:Int)==60)=false:=(by rw[aY];omega);refine(Classical.em ((x.S[x.pos].toNat:Int)=62)).elim (λQ=>?e) (λQ=>?f);(case' e=>have e2:((x.S[q].toNat:Int)==61)=false:=(by rw[aY];omega);clear B D Z);case' f=>have ab:((x.S[x.pos].toNat:Int)==62)=false:=(by rw[aY];omega);clear B D Q);case' b=>have g2:¬(q:Int)<x.S.size:=by omega
 all_goals
  go_in;go_wp2;(repeat(go_quiet(fail);go_wp2_with fail));go_loopw[6] (λG wr=>∃g:Nat,g<=13/\G=ι κ g/\(∃s,wr=(w.alloc (.cells #[ι .u8 0,θ ⟨#[]⟩,ι κ 0,ι κ 0] 61)).drewN s)/\Hid (∀i:Nat,i<g->∀n,uS[i]?=σ n->n≠x.S[x.pos])) (λG _=>13 - (intOf G).toNat);case atStart=>exact⟨0,by omega,rfl,by first|exact⟨_,rfl⟩|exact⟨_,aja _ _ _⟩|exact⟨_,ajb _ _ _ _⟩,ak (λi z=>by omega)⟩
  case round=>
   obtain⟨g,hi,rfl,⟨s,rfl⟩,L⟩:=hrel;by_cases O:g<13
   .have g3:(g:Int)<13:=(by omega);obtain⟨t,u⟩:∃t,uS[g]?=σ t:=⟨uS[g]'O,af _⟩;have Pe:∀j,(ByteArray.mk #[40,41,44,124,58,61,60,62,43,45,42,47,37])[g]'j=t:=λj=>by
     have:uS[g]?=σ ((ByteArray.mk #[40,41,44,124,58,61,60,62,43,45,42,47,37])[g]'j):=by
      rw[af O];rfl
     rw[this]at u;exact bh u
    by_cases r:t=x.S[x.pos];{have xU:((t.toNat:Int)==(x.S[x.pos].toNat:Int))=true:=(by rw[r];simp);have l:x.S[x.pos]∈uS:=(by rw[<- r];exact aq u);have v:=ak (V.J l);clear u r l;go_wp2;go_region;go_wp2;go_returns;exact⟨112,_,0,rfl,by rw[v.J.2];exact⟨rfl,rfl⟩,by rw[X.J,v.J.1],by decide,by unfold dK;decide,ib (ib (ib (ib (tC w _ _).1 (ae _) _) (ae _) _) (ae _) _) (ae _) _⟩}
    have xU:((t.toNat:Int)==(x.S[x.pos].toNat:Int))=false:=(by rw[aY];intro o;exact r (ju.mp (by omega)))
    have Y:Hid (∀i:Nat,i<g+1->∀n,uS[i]?=σ n->n≠x.S[x.pos]):=ak (λi z n C=>by
     by_cases R:i=g
     . subst R;rw[u]at C;cases C;exact r
     . exact L.J i (by omega) n C)
    clear u r;go_wp2;go_roundw;(case rel=>exact⟨g+1,by omega,by go_num,⟨_,rfl⟩,Y⟩);case measure=>simp[intOf];omega
   obtain rfl:g=13:=(by omega)
   have v:=ak (U.J (λl=>by
    have⟨i,z⟩:=cB l;have:i<13:=(ah.mp z).1;exact L.J i this _ z rfl))
   go_wp2;go_returns;exact⟨33,⟨#[]⟩,0,rfl,by rw[v.J.2];rfl,by rw[v.J.1];rfl,by decide,by unfold dK;decide,ib (ib (ib (ib (tC w _ _).1 (ae _) _) (ae _) _) (ae _) _) (ae _) _⟩
theorem abd(p:Nat)(x:gN)(w:ω)(b:uO w p x)(a:x.pos<x.S.size)(c:x.S.size<=300) :
 Calls prog 32 #[π (σ ⟨p,0,ν⟩)] w λk l=>
 ∃d f e,k=τ (Xu d f x.pos e)/\oM d f e (uR x.S x.pos a)/\f.size=fO x.S x.pos a/\d<256/\dK e/\δ w.heap.size w l:=by by_cases g:x.pos+1<x.S.size;{by_cases i:(x.S[x.pos].toNat=60/\(x.S[x.pos+1].toNat=62\/x.S[x.pos+1].toNat=61))\/(x.S[x.pos].toNat=62/\x.S[x.pos+1].toNat=61);{exact abb p x w b a c g i};exact Hu p x w b a c (λ_=>i)};exact Hu p x w b a c (λj=>absurd j g)
def Cr(S:Γ)(i:Nat):Tk:=
 if h2:aZ S gM (i+1)<S.size then(if S[aZ S gM (i+1)].toNat=39/\aZ S gM (i+1) - i - 1<=12 then .str (S.extract (i+1) (aZ S gM (i+1)))else .bad)else .bad
def uo(S:Γ)(i:Nat):Nat:=
 if h2:aZ S gM (i+1)<S.size then(if S[aZ S gM (i+1)].toNat=39/\aZ S gM (i+1) - i - 1<=12 then aZ S gM (i+1) - i - 1 else 0)else 0
theorem abe{S:Γ}(c:aZ S gM (l+1)=i)(b:∀a:i<S.size,¬(S[i].toNat=39/\i - l - 1<=12)):Cr S l=.bad/\uo S l=0:=by subst c;unfold Cr uo;split;{rename_i a;rw[aH (b a),aH (b a)];exact⟨rfl,rfl⟩};exact⟨rfl,rfl⟩
theorem Xx{S:Γ}(c:aZ S gM (l+1)=i)(a:i<S.size)(b:S[i].toNat=39/\i - l - 1<=12):Cr S l=.str (S.extract (l+1) i)/\uo S l=i - l - 1:=by subst c;unfold Cr uo;rw[kT a,kT a,aN b,aN b];exact⟨rfl,rfl⟩
theorem zT(b:UInt8):gM b=true↔32<=b.toNat/\b.toNat<=126/\b.toNat≠39:=by unfold gM;rw[cH,cH,dY,dY,oQ,ig];exact⟨λa=>⟨a.1.1,a.1.2,a.2⟩,λa=>⟨⟨a.1,a.2.1⟩,a.2.2⟩⟩
theorem Tj(p:Nat)(x:gN)(w:ω)(b:uO w p x)(P:x.pos<x.S.size)(Q:x.S.size<=300):Calls prog 31 #[π (σ ⟨p,0,ν⟩)] w λF G=>
 ∃f s r,F=τ (Xu f s x.pos r)/\oM f s r (Cr x.S x.pos)/\s.size=uo x.S x.pos/\f<256/\dK r/\δ w.heap.size w G:=by
 have I:Ξ w ⟨p,0,ν⟩=σ (θ x.S):=b.cell 0;have L:Ξ w ⟨p,1,ν⟩=σ (ι κ x.pos):=b.cell 1;have M:=b.lt;clear b;go_in;go_wp2;go_loopw[3] (λt wr=>∃a:Nat,x.pos+1<=a/\a<=x.S.size/\t=ι κ a/\(∃f,wr=(w.alloc (.cells #[ι .u8 0,θ ⟨#[]⟩,ι κ 0,ι κ 0] 61)).drewN f)/\Hid (aZ x.S gM (x.pos+1)=aZ x.S gM a)) (λt _=>x.S.size - (intOf t).toNat);case atStart=>exact⟨x.pos+1,by omega,by omega,by go_num,⟨0,rfl⟩,ak rfl⟩
 case round=>
  obtain⟨a,T,C,rfl,⟨f,rfl⟩,v⟩:=hrel;by_cases c:∃_:a<x.S.size,gM x.S[a]=true;{obtain⟨d,c⟩:=c;have n:(a:Int)<x.S.size:=(by omega);have B:=ak (v.J.trans (jP _ _ _ d c));obtain⟨l,z,e⟩:=(zT _).mp c;have l:(32:Int)<=x.S[a].toNat:=(by omega);have z:(x.S[a].toNat:Int)<=126:=(by omega);have D:((x.S[a].toNat:Int)==39)=false:=(by rw[aY];omega);clear c e;go_wp2;go_roundw;(case rel=>exact⟨a+1,by omega,by omega,by go_num,⟨_,rfl⟩,B⟩);case measure=>simp[intOf];omega}
  have j:aZ x.S gM (x.pos+1)=a:=(by rw[v.J];by_cases d:a<x.S.size;{exact nV _ _ _ d (lz.mpr λb=>c ⟨d,b⟩)};exact oU _ _ _ d);by_cases k:∃_:a<x.S.size,(x.S[a].toNat:Int)=39/\(a:Int) - x.pos - 1<=12
  .obtain⟨d,e,N⟩:=k;have n:(a:Int)<x.S.size:=(by omega);clear c;obtain⟨q,u⟩:=nm (x.pos+1:Nat);have U:(x.pos:Int)+1=q:=(by omega);have E:q<=a:=(by omega);have V:∀w,(Instr.slice 9 (θ x.S) (σ (ι κ q)) (σ (ι κ a)) ν).run prog w=.ok (θ (x.S.extract q a)) w:=λw=>wB w 9 x.S underlying9 q a E C;have y:(x.S.extract q a).size=a - x.pos - 1:=(by rw[dJ];omega)
   have o:=Xx j d (by omega);rw[<- u]at o;have g:=ak o;have A:=ak y;clear j y u o;go_wp2;go_region;go_wp2;go_returns;exact⟨115,_,0,rfl,by rw[g.J.1];exact⟨rfl,rfl⟩,by rw[A.J,g.J.2],by decide,by unfold dK;decide,
    ib (ib (ib (ib (tC w _ _).1 (ae _) _) (ae _) _) (ae _) _) (ae _) _⟩
  have g:=ak (abe j (λi R=>by
   refine fF λH=>k ⟨i,by omega,by omega⟩))
  rcases(show(¬(a:Int)<x.S.size)\/∃_:a<x.S.size,(a:Int)<x.S.size/\(((x.S[a].toNat:Int)=39/\¬((a:Int) - x.pos - 1<=12))\/(((x.S[a].toNat:Int)==39)=false/\(¬(32:Int)<=x.S[a].toNat\/(32:Int)<=x.S[a].toNat/\¬(x.S[a].toNat:Int)<=126)))from by
   by_cases i:a<x.S.size
   . refine .inr ⟨i,by omega,?_⟩
     by_cases e:(x.S[a].toNat:Int)=39
     . exact .inl ⟨e,λb=>k ⟨i,e,b⟩⟩
     . refine .inr ⟨by rw[aY];exact e,?_⟩
       have:=mt (zT x.S[a]).mpr λb=>c ⟨i,b⟩;omega
   . exact .inl (by omega))with n|⟨d,n,⟨e,O⟩|⟨D,l|⟨l,z⟩⟩⟩
  all_goals
   clear j c k;go_wp2;go_returns;exact⟨33,⟨#[]⟩,0,rfl,by rw[g.J.1];rfl,by rw[g.J.2];rfl,by decide,by unfold dK;decide,
    ib (ib (ib (ib (tC w _ _).1 (ae _) _) (ae _) _) (ae _) _) (ae _) _⟩
def Other(p:Nat)(w:ω)(k:Nat):Prop:=k≠p/\k<w.heap.size
theorem uO.Sk{w:ω}{p:Nat}{x:gN}(b:uO w p x)(a:Nat):uO (w.setCell (Ad p 1) (ι κ a)) p { x with pos:=a }:=b.set 1 _ (by simp[mM])
theorem uO.drewN{w:ω}{p:Nat}{x:gN}(a:uO w p x)(b:Nat):uO (w.drewN b) p x:=a
theorem uO.tok{w:ω}{p:Nat}{x:gN}(d:uO w p x)(a:Nat)(b:Γ)(tp:Nat)(c:Int) :
 uO ((((w.setCell (Ad p 2) (ι .u8 a)).setCell (Ad p 3) (θ b)).setCell (Ad p 4) (ι κ tp)).setCell (Ad p 5) (ι κ c)) p { x with tk:=a,tt:=b,tp:=tp,tn:=c }:=by have e:uO (w.setCell (Ad p 2) (ι .u8 a)) p { x with tk:=a }:=d.set 2 _ (by simp[mM]);have f:uO ((w.setCell (Ad p 2) (ι .u8 a)).setCell (Ad p 3) (θ b)) p { x with tk:=a,tt:=b }:=e.set 3 _ (by simp[mM]);have g:uO (((w.setCell (Ad p 2) (ι .u8 a)).setCell (Ad p 3) (θ b)).setCell (Ad p 4) (ι κ tp)) p { x with tk:=a,tt:=b,tp:=tp }:=f.set 4 _ (by simp[mM]);exact g.set 5 _ (by simp[mM])
theorem bu.drewN{K:Nat->Prop}{w:ω}(a:bu K n w)(b:Nat):bu K n (w.drewN b):=⟨a.os,a.tape,a.output,a.size,a.block⟩
theorem bu.own{p:Nat}{w:ω}(a:bu (Other p n) n w)(b:Nat)(c:υ):bu (Other p n) n (w.setCell (Ad p b) c):=a.setCell (p:=(Ad p b)) (λa=>a.1 rfl) c
theorem bu.tok{p:Nat}{w:ω}(e:bu (Other p n) n w)(a b c d:υ):bu (Other p n) n ((((w.setCell (Ad p 2) a).setCell (Ad p 3) b).setCell (Ad p 4) c).setCell (Ad p 5) d):=
 (((e.own 2 a).own 3 b).own 4 c).own 5 d
theorem bu.Tl{p:Nat}{w c:ω}(b:bu (Other p n) n w)(a:δ w.heap.size w c):bu (Other p n) n c:=
 b.trans ⟨a.os,a.tape,a.output,a.size,λe d=>a.block e (aw d.2 b.size)⟩
theorem Laid.keeps{p:Nat}{w:ω}(d:Laid n)(e:bu (Other p n) n w)(i:0<p):Laid w:=by intro b g f;have a:=d b g f;have c:0<n.heap.size:=bT _ _ a;exact(e.cell (p:=(Ad 0 b)) ⟨by simp;omega,c⟩).trans a
structure ajd (x x':gN):Prop where
 same:x'={ x with pos:=x'.pos,tk:=x'.tk,tt:=x'.tt,tp:=x'.tp,tn:=x'.tn }
 k:x'.tk<256
 n:dK x'.tn
 tok:∀h:aZ x.S dh x.pos<x.S.size,oM x'.tk x'.tt x'.tn (iu x.S (aZ x.S dh x.pos) h).1/\x'.tp=aZ x.S dh x.pos/\x'.pos=(iu x.S (aZ x.S dh x.pos) h).2
 fin:¬aZ x.S dh x.pos<x.S.size->x'.tk=0/\x'.tp=x.S.size/\x'.pos=aZ x.S dh x.pos
theorem Gs(a:jO l=true):lK l=false:=by unfold jO at a;unfold lK;rw[cH,dY,dY]at a;rw[Bool.and_eq_false_iff,ig,ig];omega
def gG(c d:UInt8):Bool:=(dP c&&dP d)||(dV c&&dV d)
theorem BQ(S:Γ)(a b:UInt8->Bool)(e:∀c,a c=b c)(d:Nat):aZ S a d=aZ S b d:=by have:a=b:=funext e;rw[this]
theorem Tn(S:Γ)(a:Nat)(e:a<S.size)(f:gG S[a] S[a]=true):iu S a e=(sC S a (aZ S (gG S[a]) a) e,aZ S (gG S[a]) a):=by
 unfold gG at f;by_cases b:dP S[a]=true
 .have d:aZ S (gG S[a]) a=aZ S dP a:=BQ _ _ _ (λg=>by
   unfold gG;have c:dV S[a]=false:=by
    unfold dP jO at b;unfold dV lK;rw[cH,dY,dY]at b;rw[Bool.and_eq_false_iff,ig,ig];omega
   rw[b,c];simp) a
  rw[d];unfold iu sC;rw[aN b,aN b];simp only;split;{rfl};split<;>rfl
 have c:dV S[a]=true:=by simpa[b]using f
 have d:aZ S (gG S[a]) a=aZ S dV a:=BQ _ _ _ (λg=>by
  unfold gG;rw[c,lz.mpr b];simp) a
 rw[d];unfold iu sC;rw[aH b,aH b,aN c];simp only;split<;>rfl
theorem Tp(S:Γ)(a:Nat)(c:a<S.size)(b:S[a].toNat=39):iu S a c=(Cr S a,a+uo S a+2):=by
 have e:¬dP S[a]=true:=by unfold dP jO;rw[b];decide
 have d:¬dV S[a]=true:=by unfold dV lK;rw[b];decide
 have i:=gT S gM (a+1);unfold iu Cr uo;rw[aH e,aH d,aN b];simp only;split;{split;{rename_i f g;refine xQ rfl ?_;simp only;omega};rfl};rfl
theorem Tq(S:Γ)(a:Nat):uo S a<=12:=by unfold uo;split;{split<;>omega};omega
theorem Tr(S:Γ)(a:Nat)(c:a<S.size)(b:gG S[a] S[a]=false)(e:¬S[a].toNat=39):iu S a c=(uR S a c,a+fO S a c):=by unfold gG at b;rw[tQ,Bool.and_self,Bool.and_self]at b;unfold iu uR;rw[aH (by rw[b.1];decide),aH (by rw[b.2];decide),aH e];simp only;split;{rename_i d;rw[d];rfl};rfl
theorem G2(S:Γ)(d:UInt8->Bool)(b a:Nat)(j:b<=a)(c:a<aZ S d b):∃i:a<S.size,d S[a]=true:=by
 rw[aZ]at c;split at c
 . rename_i g
   split at c
   . rename_i f
     by_cases e:a=b
     . subst e;exact⟨g,f⟩
     . exact G2 S d (b+1) a (by omega) c
   . omega
 . omega
 termination_by S.size - b
theorem M8(S:Γ)(a c:Nat)(j:a<S.size)(i:c<=S.size)(n:aZ S (gG S[a]) a=c)(g:dP S[a]=false) :
 ∀b (e:b<(S.extract a c).size),dV (S.extract a c)[b]=true:=by
 intro b e;have l:b<c - a:=by rw[dJ]at e;omega
 have⟨k,d⟩:=G2 S (gG S[a]) a (a+b) (by omega) (by omega);have f:(S.extract a c)[b]=S[a+b]:=ByteArray.getElem_extract ..;rw[f];unfold gG at d;rw[g]at d;simp at d;exact d.2
theorem Ts{S:Γ}(c:l<S.size)(b:aZ S (gG S[l]) l=i)(d:l<i):gG S[l] S[l]=true:=by have⟨_,a⟩:=G2 S (gG S[l]) l l (ae _) (by omega);exact a
def VX(b:Bool)(c d:UInt8):Prop:=jO c.toNat=true/\lK c.toNat=false/\jO d.toNat=b\/jO c.toNat=false/\lK c.toNat=true/\lK d.toNat=b
theorem Xy{S:Γ}(c:l<S.size)(v:l<=i)(g:aZ S (gG S[l]) l=aZ S (gG S[l]) i) :
 (∃d:i<S.size,(i:Int)<S.size/\aZ S (gG S[l]) l=aZ S (gG S[l]) (i+1)/\VX true S[l] S[i])
 \/(l<i/\aZ S (gG S[l]) l=i/\iu S l c=(sC S l i c,i)/\(¬(i:Int)<S.size\/∃d:i<S.size,(i:Int)<S.size/\VX false S[l] S[i]))
 \/(l=i/\gG S[l] S[l]=false/\jO S[l].toNat=false/\lK S[l].toNat=false):=by
 have o:gG S[l] S[l]=true->aZ S (gG S[l]) l=i->iu S l c=(sC S l i c,i):=λb a=>by have:=Tn S l c b;rwa[a]at this
 have r:gG S[l] S[l]=true->aZ S (gG S[l]) l=i->l<i:=λb a=>by
  have s:=jP S (gG S[l]) l c b;have t:=gT S (gG S[l]) (l+1);omega
 by_cases d:i<S.size;{have u:gG S[l] S[i]=(jO S[l].toNat&&jO S[i].toNat||lK S[l].toNat&&lK S[i].toNat):=rfl;have k:gG S[l] S[l]=(jO S[l].toNat&&jO S[l].toNat||lK S[l].toNat&&lK S[l].toNat):=rfl;by_cases e:jO S[l].toNat=false/\lK S[l].toNat=false;{have b:gG S[l] S[l]=false:=(by rw[k,e.1,e.2];rfl);have s:=nV S (gG S[l]) l c b;have t:=gT S (gG S[l]) i;exact .inr (.inr ⟨by omega,b,e⟩)};have b:gG S[l] S[l]=true:=(by rw[k];cases hL:jO S[l].toNat<;>cases f:lK S[l].toNat<;>first|rfl|exact absurd ⟨hL,f⟩ e);have j:VX (gG S[l] S[i]) S[l] S[i]:=(by rw[u];unfold VX;cases hL:jO S[l].toNat;{have f:lK S[l].toNat=true:=(by simpa[hL]using e);simp[f]};simp[Gs hL]);cases hE:gG S[l] S[i]<;>rw[hE]at j;{have a:=g.trans (nV _ _ _ d hE);exact .inr (.inl ⟨r b a,a,o b a,.inr ⟨d,by omega,j⟩⟩)};exact .inl ⟨d,by omega,g.trans (jP _ _ _ d hE),j⟩};have a:=g.trans (oU _ _ _ d);have n:l<i:=(by omega);exact .inr (.inl ⟨n,a,o (Ts c a n) a,.inl (by omega)⟩)
theorem Pf(p:Nat)(x:gN)(w:ω)(e:uO w p x)(hl:Laid w)(ai:0<p)(O:x.S.size<=300)(h4:x.pos<=x.S.size+1):Calls prog 17 #[π (σ (Ad p 0))] w λL g=>
 L=τ (.tuple #[])/\∃Y,uO g p Y/\ajd x Y/\bu (Other p w) w g:=by
 have HP:=ak e;have HL:=ak hl;go_in;go_wp2;go_loopw[] (λwr=>∃a:Nat,a<=x.S.size+1/\Hid (uO wr p { x with pos:=a })/\Hid (bu (Other p w) w wr)/\Hid (aZ x.S dh x.pos=aZ x.S dh a)) (λwr=>x.S.size+1 - (intOf ((Ξ wr (Ad p 1)).getD undef)).toNat);case atStart=>exact⟨x.pos,h4,HP,ak (bu.refl _ _),ak rfl⟩
 case round=>
  obtain⟨a,hi,b,y,C⟩:=hrel;have c0:Ξ wr (Ad p 0)=σ (θ x.S):=b.J.cell 0;have E:Ξ wr (Ad p 1)=σ (ι κ a):=b.J.cell 1;have f1:=b.J.fz 1;by_cases d:a<x.S.size
  .have g1:(a:Int)<x.S.size:=(by omega);by_cases hb:(x.S[a].toNat:Int)=32;{have I:dh x.S[a]=true:=(by unfold dh;rw[dY];omega);have i:=ak (C.J.trans (jP _ _ _ d I));go_wp2;go_quiet(fail);go_wp2;go_roundw;(case rel=>refine⟨a+1,by omega,ak ?_,ak ((y.J.drewN _).own 1 _),i⟩;have:=(b.J.drewN nq).Sk (a+1);rwa[show(((a+1:Nat):Int))=(a:Int)+1 from by omega]at this);case measure=>have c:=nu (wr.drewN nq) (Ad p 1) (ι κ ((a:Int)+1)) (u:=ι κ a) E;rw[c,E];simp[intOf];omega}
   have zC:((x.S[a].toNat:Int)==32)=false:=(by rw[aY];exact hb);have I:dh x.S[a]=false:=(by unfold dh;rw[ig];omega);have i:=ak (C.J.trans (nV _ _ _ d I));go_wp2;go_quiet(fail);go_wp2;go_quiet(fail);go_wp2;go_quiet(fail);go_wp2;rw[show decide (x.S.size<=a)=false from by rw[ig];omega];go_loopw[3] (λM X=>∃c:Nat,a<=c/\c<=x.S.size/\M=ι κ c/\Hid (uO X p { x with pos:=a })/\Hid (bu (Other p w) w X)/\Hid (aZ x.S (gG x.S[a]) a=aZ x.S (gG x.S[a]) c)) (λM _=>x.S.size - (intOf M).toNat);(case atStart=>exact⟨a,ae _,by omega,rfl,ak (b.J.drewN _),ak (y.J.drewN _),ak rfl⟩);case round=>
    obtain⟨c,ag,P,rfl,f,z,HE⟩:=hrel;have c0:Ξ wr (Ad p 0)=σ (θ x.S):=f.J.cell 0;have E:Ξ wr (Ad p 1)=σ (ι κ a):=f.J.cell 1;have f1:=f.J.fz 1;rcases Xy d ag HE.J with⟨Z,F,Ku,H⟩|⟨Q,mh,ac,H⟩|⟨rfl,uq,r,o⟩;{have ab:=ak Ku;rcases H with⟨r,o,v⟩|⟨r,o,v⟩;all_goals go_wp2_with(first|(go_at_call 28;refine(yb _ _).mono ?_;rintro l g ⟨rfl,rfl⟩)|(go_at_call 29;refine(EU _ _).mono ?_;rintro l g ⟨rfl,rfl⟩));go_roundw;(case rel=>exact⟨c+1,by omega,by omega,by go_num,f,z,ab⟩);case measure=>simp[intOf];omega};case' inr.inl=>
     have am:(a:Int)<c:=(by omega);have B:=ak ac;have D:=ak mh;rcases H with F|⟨Z,F,⟨r,o,v⟩|⟨r,o,v⟩⟩
     all_goals go_wp2_with(first|(go_at_call 28;refine(yb _ _).mono ?_;rintro l g ⟨rfl,rfl⟩)|(go_at_call 29;refine(EU _ _).mono ?_;rintro l g ⟨rfl,rfl⟩));refine(aa1 p { x with pos:=a } c wr f.J (HL.J.keeps z.J ai) Q P (M8 x.S a c d P D.J)).mono ?_;rintro L k ⟨T,n,U,rfl,N,s,t,G⟩;have al:=Q
    (case' inr.inr=>have F:(a:Int)<x.S.size:=(by omega);by_cases ad:(x.S[a].toNat:Int)=39;(case' pos=>have B:=ak (Tp x.S a d (by omega)));(case' neg=>have an:((x.S[a].toNat:Int)==39)=false:=(by rw[aY];exact ad);have B:=ak (Tr x.S a d uq (by omega)));all_goals go_wp2_with(first|(go_at_call 28;refine(yb _ _).mono ?_;rintro l g ⟨rfl,rfl⟩)|(go_at_call 29;refine(EU _ _).mono ?_;rintro l g ⟨rfl,rfl⟩));(first|refine(Tj p { x with pos:=a } wr f.J d O).mono ?_|refine(abd p { x with pos:=a } wr f.J d O).mono ?_);rintro L k ⟨T,n,U,rfl,N,V,s,t,G⟩;have al:n.size<=300:=(by rw[V];first|exact ay (Tq x.S a) (by omega)|exact ay (Cj x.S a d).1 (by omega));have D:=ak V);all_goals
     have j:uO k p { x with pos:=a }:=f.J.kY (G.block p f.J.lt);have A:=ak (z.J.Tl G);have d1:Ξ k (Ad p 1)=σ (ι κ a):=j.cell 1;have d2:Ξ k (Ad p 2)=σ (ι .u8 x.tk):=j.cell 2;have d3:Ξ k (Ad p 3)=σ (θ x.tt):=j.cell 3;have d4:Ξ k (Ad p 4)=σ (ι κ x.tp):=j.cell 4;have d5:Ξ k (Ad p 5)=σ (ι κ x.tn):=j.cell 5;have m:=j.fz;have aa:=ak j;have HT:=ak N;unfold Xu;go_wp2;(try go_quiet(fail);go_wp2_with fail);go_end0;have u:=λ(nq:Nat) (q:Int) R (hj:((R:Nat):Int)=q)=>show uO _ _ _ from hj ▸ ((aa.J.tok T n a U).drewN nq).Sk R
     first
      |refine⟨rfl,_,u 0 _ c rfl,⟨rfl,s,t,λe=>?_,λe=>?_⟩,(A.J.tok _ _ _ _).own 1 _⟩
      |refine⟨rfl,_,u _ _ (a+n.size+2) (by omega),⟨rfl,s,t,λe=>?_,λe=>?_⟩,((A.J.tok _ _ _ _).drewN _).own 1 _⟩
      |refine⟨rfl,_,u _ _ (a+n.size) (by omega),⟨rfl,s,t,λe=>?_,λe=>?_⟩,((A.J.tok _ _ _ _).drewN _).own 1 _⟩
     {have hx:=i.J;simp only[hx];rw[B.J];(try rw[D.J]);refine⟨HT.J,?_,?_⟩<;>first|rfl|trivial};exact absurd (by rw[i.J];exact d) e
  have g1:¬(a:Int)<x.S.size:=(by omega);have i:=ak (C.J.trans (oU _ _ _ d));have c2:Ξ wr (Ad p 2)=σ (ι .u8 x.tk):=b.J.cell 2;have c3:Ξ wr (Ad p 3)=σ (θ x.tt):=b.J.cell 3;have c4:Ξ wr (Ad p 4)=σ (ι κ x.tp):=b.J.cell 4;have c5:Ξ wr (Ad p 5)=σ (ι κ x.tn):=b.J.cell 5;have f2:=b.J.fz 2;have f3:=b.J.fz 3;have f4:=b.J.fz 4;have f5:=b.J.fz 5;go_wp2;go_quiet(fail);go_wp2;go_quiet(fail);go_wp2;go_returns;refine⟨rfl,_,(b.J.drewN _).tok 0 ⟨#[]⟩ x.S.size 0,⟨rfl,Nat.zero_lt_succ _,⟨by show(-9223372036854775808:Int)<=0;decide,by show(0:Int)<=9223372036854775807;decide⟩,λe=>?_,λ_=>⟨rfl,rfl,?_⟩⟩,(y.J.drewN _).tok _ _ _ _⟩;{rw[i.J]at e;omega};exact i.J.symm
structure cz where
 op:Γ
 pl:Nat
 first:Nat
 a:Nat
 b:Nat
 n:Int
 s:Γ
def uf(x:cz):Δ υ:=[θ x.op,ι κ x.pl,ι κ x.first,ι κ x.a,ι κ x.b,ι κ x.n,θ x.s]
def kZ(l:Δ cz):Δ υ:=l.flatMap uf
theorem Tt(a:Δ cz):(kZ a).length=a.length*7:=by induction a with|nil=>rfl|cons x a b=>simp[kZ,uf]at b ⊢;omega
theorem Pg(a:Δ cz)(x:cz):kZ (a++[x])=kZ a++uf x:=by simp[kZ]
theorem Cu(b:Δ cz)(a c:Nat)(f:c<7):(kZ b)[a*7+c]?=(b[a]?).bind λx=>(uf x)[c]?:=by induction b generalizing a with|nil=>simp[kZ]|cons x b e=>have d:kZ (x::b)=uf x++kZ b:=(by simp[kZ]);rw[d];cases a with|zero=>(rw[bF (by simp[uf];omega)];simp)|succ a=>rw[br (by simp[uf];omega)];have:(a+1)*7+c - (uf x).length=a*7+c:=(by simp[uf];omega);rw[this,e];simp
structure Rest (x x':gN):Prop where
 S:x'.S=x.S
 deep:x'.deep=x.deep
 cU:x'.cU=x.cU
 Bs:x'.Bs=x.Bs
 Bt:x'.Bt=x.Bt
 Gp:x'.Gp=x.Gp
 Gq:x'.Gq=x.Gq
 bJ:x'.bJ=x.bJ
 kinds:x'.kinds=x.kinds
 ry:x'.ry=x.ry
 cond:x'.cond=x.cond
 oF:x'.oF=x.oF
theorem Rest.refl(x:gN):Rest x x:=⟨rfl,rfl,rfl,rfl,rfl,rfl,rfl,rfl,rfl,rfl,rfl,rfl⟩
theorem Rest.trans{x c d:gN}(a:Rest x c)(b:Rest c d):Rest x d:=
 ⟨b.S.trans a.S,b.deep.trans a.deep,b.cU.trans a.cU,b.Bs.trans a.Bs,b.Bt.trans a.Bt,b.Gp.trans a.Gp,b.Gq.trans a.Gq,b.bJ.trans a.bJ,b.kinds.trans a.kinds,b.ry.trans a.ry,b.cond.trans a.cond,b.oF.trans a.oF⟩
def zU(x:gN):aD->Prop
 |.live t ts=>x.e=0/\oM x.tk x.tt x.tn t.k/\x.tp=t.pl/\(t.k.ends=false->ts=iw x.S x.pos)/\(t.k.ends=true->ts=[])
 |.dead e b=>x.e=e/\x.bad=b/\e≠0
structure jz (K:Nat->Prop)(w:ω)(p:Nat)(x:gN)(m:aD)(ns:Δ cz):Prop where
 pen:uO w p x
 laid:Laid w
 p0:0<p
 DC:x.S.size<=300
 pos:x.pos<=x.S.size+1
 tk:x.tk<256
 tn:dK x.tn
 tp:x.tp<=x.S.size
 mode:zU x m
 own:w.ownsRow 0 207 7 x.gp ns.length (kZ ns)
 apart:x.gp.ownBlock≠σ p
 k0:K 0
 kp:¬K p
 kv:∀g,x.gp.ownBlock=σ g->¬K g
 old:∀k,K k->k<w.heap.size
theorem jz.other{K:Nat->Prop}{w:ω}{p:Nat}{x:gN}{m:aD}{ns:Δ cz}(b:jz K w p x m ns):∀a,K a->Other p w a:=
 λa c=>⟨λd=>b.kp (d ▸ c),b.old a c⟩
theorem Cv(S:Γ)(b:Nat)(c:b<S.size)(a:(iu S b c).1.ends=true):(iu S b c).1=.bad:=by
 revert a;unfold iu;simp only;repeat' split
 all_goals intro a
 all_goals first|rfl|(simp[Tk.ends]at a)
theorem Ph(S:Γ)(a:Nat)(c:a<S.size):(iu S a c).2<=S.size+1:=by by_cases b:(iu S a c).1.ends=true;{have d:=iq S dP a (by omega);have e:=iq S dV a (by omega);have f:=iq S gM (a+1) (by omega);revert b;unfold iu;simp only;(repeat' split);(all_goals intro b);all_goals first|(simp[Tk.ends]at b;done)|(simp only;omega)};have:=(uK S a c (by simpa using b)).2;omega
theorem G3{K:Nat->Prop}{w:ω}{p:Nat}{x:gN}{m:aD}{ns:Δ cz}(a:jz K w p x m ns)(M:∀t A,m=.live t A->t.k.ends=false) :
 Calls prog 17 #[π (σ ⟨p,0,ν⟩)] w λF u=>
 F=τ (.tuple #[])/\∃d,jz K u p d m.aK ns/\Rest x d/\d.gp=x.gp/\bu K w u:=by refine(Pf p x w a.pen a.laid a.p0 a.DC a.pos).mono ?_;rintro F u ⟨rfl,d,I,c,e⟩;refine⟨rfl,d,?_,?_,?_,e.mono a.other⟩;{have n:d.S=x.S:=(by rw[c.same]);have o:d.e=x.e:=(by rw[c.same]);have G:d.bad=x.bad:=(by rw[c.same]);have v:d.gp=x.gp:=(by rw[c.same]);have P:=gT x.S dh x.pos;have B:d.pos<=x.S.size+1/\d.tp<=x.S.size:=(by by_cases b:aZ x.S dh x.pos<x.S.size;{obtain⟨f,i,j⟩:=c.tok b;rw[i,j];refine⟨Ph x.S _ b,by omega⟩};obtain⟨f,i,j⟩:=c.fin b;rw[i,j];refine⟨?_,ae _⟩;by_cases N:x.pos<=x.S.size;{have:=iq x.S dh x.pos N;omega};rw[oU _ _ _ (by omega)];exact a.pos);refine⟨I,a.laid.keeps e a.p0,a.p0,by rw[n];exact a.DC,by rw[n];exact B.1,c.k,c.n,by rw[n];exact B.2,?_,?_,by rw[v];exact a.apart,a.k0,a.kp,by rw[v];exact a.kv,λz y=>aw (a.old z y) e.size⟩;{have C:=a.mode;cases m with|dead D Q=>(obtain⟨f,i,j⟩:=C;exact⟨by rw[o];exact f,by rw[G];exact i,j⟩)|live t A=>obtain⟨f,i,j,H,R⟩:=C;have g:=H (M t A rfl);by_cases b:aZ x.S dh x.pos<x.S.size;{obtain⟨k,r,E⟩:=c.tok b;by_cases s:(iu x.S (aZ x.S dh x.pos) b).1.ends=true;{have l:iw x.S x.pos=[⟨.bad,aZ x.S dh x.pos⟩]:=(by rw[iw];simp only[dif_pos b,dif_pos s]);rw[l]at g;subst g;have L:(iu x.S (aZ x.S dh x.pos) b).1=.bad:=Cv x.S _ b s;rw[L]at k;exact⟨by rw[o];exact f,k,r,λa=>by simp[Tk.ends]at a,λ_=>rfl⟩};have l:iw x.S x.pos=⟨(iu x.S (aZ x.S dh x.pos) b).1,aZ x.S dh x.pos⟩::iw x.S (iu x.S (aZ x.S dh x.pos) b).2:=(by rw[iw];simp only[dif_pos b,dif_neg s]);rw[l]at g;subst g;exact⟨by rw[o];exact f,k,r,λ_=>by rw[n,E],λa=>absurd a s⟩};obtain⟨k,r,E⟩:=c.fin b;have l:iw x.S x.pos=[⟨.stop,x.S.size⟩]:=(by rw[iw];simp only[dif_neg b]);rw[l]at g;subst g;exact⟨by rw[o];exact f,k,r,λa=>by simp[Tk.ends]at a,λ_=>rfl⟩};rw[v];refine a.own.kept (w':=u) (row:=σ p) ⟨e.os,e.tape,e.output,e.size,λz y O=>e.block z ⟨λD=>O (by rw[D]),y⟩⟩ (.inr a.apart)};{rw[c.same];exact⟨rfl,rfl,rfl,rfl,rfl,rfl,rfl,rfl,rfl,rfl,rfl,rfl⟩};rw[c.same]
theorem VZ(w:ω)(a b:Obj):δ w.heap.size w ((w.alloc a).alloc b).drew/\((w.alloc a).alloc b).drew.heap[w.heap.size]?=σ a/\((w.alloc a).alloc b).drew.heap[w.heap.size+1]?=σ b/\((w.alloc a).alloc b).drew.heap.size=w.heap.size+2:=
 ⟨aP (((aj _ _).alloc (ae _) a).alloc (by simp) b),heap_alloc2_old w a b,heap_alloc2_new w a b,by
  show((w.heap.push a).push b).size=_;simp⟩
section
variable {K:Nat->Prop} {w:ω} {p:Nat} {x:gN} {m:aD} {ns:Δ cz}
theorem ajf(c:zU x m)(d:Γ):isV x d=m.is d:=by cases m with|dead i g=>(obtain⟨b,_,e⟩:=c;have:¬x.e=0:=(by rw[b];exact e);unfold isV aD.is aD.tk;simp[this])|live tk k=>obtain⟨b,a,_⟩:=c;obtain⟨f,j⟩:=tk;unfold isV;cases f<;>simp only[oM]at a;(case stop=>simp[a,aD.is,aD.tk]);(case bad=>simp[a,aD.is,aD.tk]);(case cU s=>simp[b,a.1,a.2.1,aD.is,aD.tk]);(case aI s=>simp[a.1,aD.is,aD.tk]);(case num n=>simp[a.1,aD.is,aD.tk]);(case str s=>simp[a.1,aD.is,aD.tk]);case sign s=>simp[b,a.1,a.2,aD.is,aD.tk]
theorem ahD(b:jz K w p x m ns)(a:Γ):Calls prog 33 #[π (σ (Ad p 0)),θ a] w λc d=>
 c=τ (.bool (m.is a))/\w=d:=by rw[<- ajf b.mode a];exact ai3 p x a w b.pen
theorem jz.wrote{b:gN}{i:aD}(a:jz K w p x m ns)(l:uO n p b)(c:bu (Other p w) w n)(d:Rest x b)(f:b.gp=x.gp)
 (j:b.pos<=x.S.size+1) (u:b.tk<256) (r:dK b.tn) (s:b.tp<=x.S.size) (o:zU b i):jz K n p b i ns:=
 ⟨l,a.laid.keeps c a.p0,a.p0,by rw[d.S];exact a.DC,by rw[d.S];exact j,u,r,by rw[d.S];exact s,o,
  by rw[f];exact a.own.kept (w':=n) (row:=σ p) ⟨c.os,c.tape,c.output,c.size,λg e t=>c.block g ⟨λk=>t (by rw[k]),e⟩⟩ (.inr a.apart),
  by rw[f];exact a.apart,a.k0,a.kp,by rw[f];exact a.kv,λg e=>aw (a.old g e) c.size⟩
theorem G4(a:jz K w p x m ns)(b c:Nat)(l:b≠0):Calls prog 19 #[π (σ (Ad p 0)),ι κ b,ι κ c] w λi e=>
 i=τ (.tuple #[])/\∃f,jz K e p f (m.fail b c) ns/\Rest x f/\f.gp=x.gp/\bu K w e:=by refine(aaX p x w a.pen b c).mono ?_;rintro i e ⟨rfl,rfl⟩;refine⟨rfl,?_⟩;cases m with|dead o n=>(obtain⟨d,_,j⟩:=a.mode;rw[aH (by rw[d];exact j)];exact⟨x,a,Rest.refl x,rfl,bu.refl _ _⟩)|live r s=>obtain⟨d,_⟩:=a.mode;rw[aN d];have k:uO ((w.setCell (Ad p 6) (ι κ b)).setCell (Ad p 7) (ι κ c)) p { x with e:=b,bad:=c }:=(by have d:uO (w.setCell (Ad p 6) (ι κ b)) p { x with e:=b }:=a.pen.set 6 _ (by simp[mM]);exact d.set 7 _ (by simp[mM]));have g:bu (Other p w) w ((w.setCell (Ad p 6) (ι κ b)).setCell (Ad p 7) (ι κ c)):=((bu.refl _ _).own 6 _).own 7 _;exact⟨_,a.wrote k g ⟨rfl,rfl,rfl,rfl,rfl,rfl,rfl,rfl,rfl,rfl,rfl,rfl⟩ rfl a.pos a.tk a.tn a.tp ⟨rfl,rfl,l⟩,⟨rfl,rfl,rfl,rfl,rfl,rfl,rfl,rfl,rfl,rfl,rfl,rfl⟩,rfl,g.mono a.other⟩
theorem jz.also{K':Nat->Prop}(a:jz K w p x m ns)(d:δ w.heap.size w n)(g:∀c,K' c->K c\/(w.heap.size<=c/\c<n.heap.size))(k:K' 0):jz K' n p x m ns:=by
 have j:=a.pen.lt;refine⟨a.pen.kY (d.block p j),a.laid.aU d,a.p0,a.DC,a.pos,a.tk,a.tn,a.tp,a.mode,
  a.own.kept (w':=n) (row:=ν) ⟨d.os,d.tape,d.output,d.size,λc e _=>d.block c e⟩ (by cases x.gp.ownBlock<;>simp),a.apart,k,?_,?_,?_⟩
 {intro e;rcases g p e with b|b;{exact a.kp b};omega};{intro f i e;rcases g f e with b|b;{exact a.kv f i b};have:=(a.own.lt f i).2;omega};intro c e;rcases g c e with b|b;{exact aw (a.old c b) d.size};exact b.2
theorem jz.less{K':Nat->Prop}(a:jz K w p x m ns)(d:∀c,K' c->K c)(f:K' 0):jz K' w p x m ns:=
 ⟨a.pen,a.laid,a.p0,a.DC,a.pos,a.tk,a.tn,a.tp,a.mode,a.own,a.apart,f,λb=>a.kp (d p b),λe g b=>a.kv e g (d e b),λc b=>a.old c (d c b)⟩
theorem jz.aU(a:jz K w p x m ns)(b:δ w.heap.size w n):jz K n p x m ns:=a.also b (λ_ c=>.inl c) a.k0
theorem jz.ne(b:jz K w p x m ns){r:Nat}(c:K r):r≠p/\x.gp.ownBlock≠σ r:=
 ⟨λa=>b.kp (a ▸ c),λa=>b.kv r a c⟩
theorem jz.put(a:jz K w p x m ns)(e:l≠p)(f:x.gp.ownBlock≠σ l)(g:¬K l)(i:Nat)(c:υ):jz K (w.setCell (Ad l i) c) p x m ns:=by
 have k:l≠0:=λb=>g (b ▸ a.k0);refine⟨a.pen.kY (aL _ _ _ _ (Ne.symm e)),?_,a.p0,a.DC,a.pos,a.tk,a.tn,a.tp,a.mode,
  a.own.kept (grownBy_setCell w (Ad l i) c) (.inr f),a.apart,a.k0,a.kp,a.kv,λo j=>by simpa[World.setCell]using a.old o j⟩
 intro d r n;have b:=dx (w:=w) (w':=w.setCell (Ad l i) c) (a:=(Ad 0 d)) (aL _ _ _ _ (Ne.symm k));exact b.trans (a.laid d r n)
theorem jz.drewN(a:jz K w p x m ns)(b:Nat):jz K (w.drewN b) p x m ns:=⟨a.pen,a.laid,a.p0,a.DC,a.pos,a.tk,a.tn,a.tp,a.mode,a.own,a.apart,a.k0,a.kp,a.kv,a.old⟩
theorem jz.drew(a:jz K w p x m ns):jz K w.drew p x m ns:=⟨a.pen,a.laid,a.p0,a.DC,a.pos,a.tk,a.tn,a.tp,a.mode,a.own,a.apart,a.k0,a.kp,a.kv,a.old⟩
theorem G5{a:Tok}{d:Δ Tok}(b:(aD.live a d).is v=true):a.k.ends=false:=by obtain⟨c,e⟩:=a;cases c<;>simp[aD.is,aD.tk,Tk.ends]at b ⊢
theorem zV(b:zU x m)(a:Nat):m.fail a x.tp=m.cQ a:=by cases m with|dead e d=>rfl|live f g=>obtain⟨_,_,c,_⟩:=b;unfold aD.cQ aD.cE;rw[c]
end
theorem afh{K:Nat->Prop}{w:ω}{p:Nat}{x:gN}{m:aD}{ns:Δ cz}(j:jz K w p x m ns)(a:Γ):Calls prog 38 #[π (σ (Ad p 0)),θ a] w λe r=>
 e=τ (ι κ x.tp)/\∃n,jz K r p n (m.take a) ns/\Rest x n/\n.gp=x.gp/\bu K w r:=by have u:Ξ w (Ad p 4)=σ (ι κ x.tp):=j.pen.cell 4;have d:=ak j;clear j;go_in;go_wp21;refine(ahD d.J a).mono ?_;rintro e s ⟨rfl,rfl⟩;cases LD:m.is a;{go_wp21;refine(G4 d.J 2 x.tp (by decide)).mono ?_;rintro e s ⟨rfl,o,b,k,l,c⟩;have f:=ak b;have g:=ak c;clear b c;go_wp2;go_ret;refine⟨rfl,o,?_,k,l,g.J⟩;have i:m.take a=m.fail 2 x.tp:=(by unfold aD.take;rw[LD,zV d.J.mode];rfl);rw[i];exact f.J};go_wp21;refine(G3 d.J (λa v t=>by subst t;exact G5 LD)).mono ?_;rintro e s ⟨rfl,o,b,k,l,c⟩;have f:=ak b;have g:=ak c;clear b c;go_wp2;go_ret;refine⟨rfl,o,?_,k,l,g.J⟩;have i:m.take a=m.aK:=(by unfold aD.take;rw[LD];rfl);rw[i];exact f.J
theorem afS{x:gN}{m:aD}(e:zU x m)(i:x.e=0)(l:x.tk=97):m.aI=((x.tt,x.tp),m.aK)/\∀a c,m=.live a c->a.k.ends=false:=by cases m with|dead d k=>(obtain⟨f,_,b⟩:=e;exact absurd (f.symm.trans i) b)|live a c=>obtain⟨f,g,b,_⟩:=e;have⟨j,n⟩:=a;cases j<;>simp only[oM]at g;(case stop=>omega);(case bad=>omega);(case cU s=>omega);(case num s=>omega);(case str s=>omega);(case sign s=>omega);case aI s=>refine⟨?_,λa c d=>by cases d;rfl⟩;simp only at b;simp[aD.aI,aD.tk,aD.cE,g.2,b]
theorem abX{x:gN}{m:aD}(b:zU x m)(d:¬(x.e=0/\x.tk=97)):m.aI=((ByteArray.empty,0),m.cQ 2):=by cases m with|dead i g=>rfl|live f l=>obtain⟨c,a,j,_⟩:=b;have⟨e,k⟩:=f;cases e<;>simp only[oM]at a;(case aI s=>exact absurd ⟨c,a.1⟩ d);all_goals rfl
def abY(n:Γ×Nat):υ:=.agg #[θ n.1,ι κ n.2]
theorem afT{K:Nat->Prop}{w:ω}{p:Nat}{x:gN}{m:aD}{ns:Δ cz}(b:jz K w p x m ns):Calls prog 35 #[π (σ (Ad p 0))] w λA C=>
 A=τ (abY m.aI.1)/\∃u,jz K C p u m.aI.2 ns/\Rest x u/\u.gp=x.gp/\bu K w C:=by
 have R:Ξ w (Ad p 2)=σ (ι .u8 x.tk):=b.pen.cell 2;have T:Ξ w (Ad p 3)=σ (θ x.tt):=b.pen.cell 3;have U:Ξ w (Ad p 4)=σ (ι κ x.tp):=b.pen.cell 4;have V:Ξ w (Ad p 6)=σ (ι κ x.e):=b.pen.cell 6;have X:=b.pen.lt;have c:=ak b;have k:(x.e=0/\x.tk=97/\((x.e:Int)==0)=true/\((x.tk:Int)==97)=true/\m.aI.1=(x.tt,x.tp)/\m.aI.2=m.aK/\∀B N,m=.live B N->B.k.ends=false)\/(x.e=0/\¬x.tk=97/\((x.e:Int)==0)=true/\((x.tk:Int)==97)=false/\m.aI.1=(ByteArray.empty,0)/\m.aI.2=m.fail 2 x.tp)\/(¬x.e=0/\((x.e:Int)==0)=false/\m.aI.1=(ByteArray.empty,0)/\m.aI.2=m.fail 2 x.tp):=by
  have v:¬(x.e=0/\x.tk=97)->m.aI.1=(ByteArray.empty,0)/\m.aI.2=m.fail 2 x.tp:=λb=>by rw[abX c.J.mode b,zV c.J.mode];exact⟨rfl,rfl⟩
  by_cases d:x.e=0;{by_cases a:x.tk=97;{have⟨j,s⟩:=afS c.J.mode d a;exact .inl ⟨d,a,by rw[dR];omega,by rw[dR];omega,by rw[j],by rw[j],s⟩};exact .inr (.inl ⟨d,a,by rw[dR];omega,by rw[aY];omega,v (λb=>a b.2)⟩)};exact .inr (.inr ⟨d,by rw[aY];omega,v (λb=>d b.1)⟩)
 rcases k with⟨d,a,D,O,r,o,G⟩|⟨d,a,D,O,r,o⟩|⟨d,D,r,o⟩;all_goals go_in;go_wp2;go_region;go_wp21;generalize hW:World.drew _=W;obtain⟨g,H,I,Q⟩:δ w.heap.size w W/\W.heap[w.heap.size]?=σ (obG ⟨#[]⟩ 0)/\W.heap[w.heap.size+1]?=σ (obG x.tt x.tp)/\W.heap.size=w.heap.size+2:=(by rw[<- hW];exact VZ w _ _);have z:jz (λe=>K e\/e=w.heap.size\/e=w.heap.size+1) W p x m ns:=c.J.also g (λe a=>by rcases a with a|a|a;exact .inl a;exact .inr (by omega);exact .inr (by omega)) (.inl c.J.k0);(first|refine(G3 z G).mono ?_|refine(G4 z 2 x.tp (by decide)).mono ?_);rintro A f ⟨rfl,P,j,s,k,t⟩;have n:f.heap[w.heap.size]?=σ _:=(t.block w.heap.size (.inr (.inl rfl))).trans H;have y:f.heap[w.heap.size+1]?=σ _:=(t.block (w.heap.size+1) (.inr (.inr rfl))).trans I;have L:Ξ f (Ad w.heap.size 0)=σ (θ ⟨#[]⟩):=(by simp[World.cell?,n]);have M:Ξ f (Ad w.heap.size 1)=σ (ι κ 0):=(by simp[World.cell?,n]);have Y:Ξ f (Ad (w.heap.size+1) 0)=σ (θ x.tt):=(by simp[World.cell?,y]);have Z:Ξ f (Ad (w.heap.size+1) 1)=σ (ι κ x.tp):=(by simp[World.cell?,y]);have z0:f.frozen? (Ad w.heap.size 0)=false:=(by simp[World.frozen?,n]);have z1:f.frozen? (Ad w.heap.size 1)=false:=(by simp[World.frozen?,n]);have i:=j.ne (r:=w.heap.size) (.inr (.inl rfl));have l:¬K w.heap.size:=λa=>fy _ (c.J.old _ a);have E:=(j.less (K':=K) (λe a=>.inl a) c.J.k0);have F:=((bu.uN (K:=K) ⟨g.os,g.tape,g.output,g.size,λe a _=>g.block e a⟩ c.J.old).trans (t.mono (λe a=>.inl a)));go_wp2;(try simp only[Exit.inBlock,Exit.then]);refine aE (v:=abY m.aI.1) (by rw[r];simp[results,results35,go_sem,abY,L,M];try rfl) rfl ?_;refine⟨rfl,P,?_,s,k,?_⟩;{rw[o];exact(E.put i.1 (by rw[k]at i ⊢;exact i.2) l 0 _).put i.1 (by rw[k]at i ⊢;exact i.2) l 1 _};exact(F.setCell (p:=(Ad w.heap.size 0)) l _).setCell (p:=(Ad w.heap.size 1)) l _
theorem yA(a:Nat)(w:ω):Calls prog 97 #[ι .u8 a] w λd e=>d=τ (.bool (jO a))/\w=e:=by unfold jO;by_cases f:(97:Int)<=a;{by_cases g:(a:Int)<=122;{go_in;go_wp2;go_ret;have b:97<=a:=(by omega);have c:a<=122:=(by omega);simp[b,c]};go_in;go_wp2;go_ret;have b:97<=a:=(by omega);have c:¬a<=122:=(by omega);simp[b,c]};go_in;go_wp2;go_ret;have b:¬97<=a:=(by omega);simp[b]
theorem Ak(a:Nat)(w:ω):Calls prog 99 #[ι .u8 a] w λd e=>d=τ (.bool (lK a))/\w=e:=by unfold lK;by_cases f:(48:Int)<=a;{by_cases g:(a:Int)<=57;{go_in;go_wp2;go_ret;have b:48<=a:=(by omega);have c:a<=57:=(by omega);simp[b,c]};go_in;go_wp2;go_ret;have b:48<=a:=(by omega);have c:¬a<=57:=(by omega);simp[b,c]};go_in;go_wp2;go_ret;have b:¬48<=a:=(by omega);simp[b]
theorem Gz(a:Γ)(w:ω)(k:a.size<=300):Calls prog 141 #[θ a,.func (.func 97) #[] #[]] w λg f=>g=τ (ι κ (aZ a dP 0))/\w=f:=by
 go_in;go_wp2;go_loopw[8] (λe wr=>∃b:Nat,b<=a.size/\e=ι κ b/\wr=w/\Hid (aZ a dP 0=aZ a dP b)) (λe _=>a.size - (intOf e).toNat);case atStart=>exact⟨0,aB _,rfl,rfl,ak rfl⟩
 case round=>obtain⟨b,l,rfl,rfl,d⟩:=hrel;by_cases c:b<a.size;{have j:=aX.2 c;cases hb:jO a[b].toNat;{go_wp2_with(go_at_call 97;refine(yA _ _).mono ?_;rintro i f ⟨rfl,rfl⟩);go_ret;refine⟨?_,rfl⟩;rw[d.J,nV a dP b c hb];rfl};go_wp2_with(go_at_call 97;refine(yA _ _).mono ?_;rintro i f ⟨rfl,rfl⟩);go_roundw;(case rel=>exact⟨b+1,by omega,by go_num,by first|rfl|trivial,ak (d.J.trans (jP a dP b c hb))⟩);case measure=>simp[intOf];omega};go_wp2;go_ret;refine⟨?_,rfl⟩;rw[d.J,oU a dP b c];have:a.size=b:=(by omega);rw[this];rfl
theorem IL(a:Γ)(w:ω)(k:a.size<=300):Calls prog 141 #[θ a,.func (.func 99) #[] #[]] w λg f=>g=τ (ι κ (aZ a dV 0))/\w=f:=by
 go_in;go_wp2;go_loopw[8] (λe wr=>∃b:Nat,b<=a.size/\e=ι κ b/\wr=w/\Hid (aZ a dV 0=aZ a dV b)) (λe _=>a.size - (intOf e).toNat);case atStart=>exact⟨0,aB _,rfl,rfl,ak rfl⟩
 case round=>obtain⟨b,l,rfl,rfl,d⟩:=hrel;by_cases c:b<a.size;{have j:=aX.2 c;cases hb:lK a[b].toNat;{go_wp2_with(go_at_call 99;refine(Ak _ _).mono ?_;rintro i f ⟨rfl,rfl⟩);go_ret;refine⟨?_,rfl⟩;rw[d.J,nV a dV b c hb];rfl};go_wp2_with(go_at_call 99;refine(Ak _ _).mono ?_;rintro i f ⟨rfl,rfl⟩);go_roundw;(case rel=>exact⟨b+1,by omega,by go_num,by first|rfl|trivial,ak (d.J.trans (jP a dV b c hb))⟩);case measure=>simp[intOf];omega};go_wp2;go_ret;refine⟨?_,rfl⟩;rw[d.J,oU a dV b c];have:a.size=b:=(by omega);rw[this];rfl
