import Derived.Test.YtcoaphfimellcaaGreatDoorQAC
import Derived.BigQuiet
import Derived.Handy
import Derived.Deep.RegionLaw
set_option maxHeartbeats 0
set_option maxRecDepth 100000
namespace Go.Proofs.YtcoaphfimellcaaGreatDoor
open Go.RowKit
open _root_.Go.Proofs.Tryz
open Option renaming some→σ,none→ν
open Go.IntKind renaming i64→κ
open Go.Ending renaming returned→τ
open Go.Obj renaming cells→ξ
open Go renaming World→ω,Value→υ
open Go.RowKit renaming Below→δ
open Go.Value renaming int→ι,string→θ,pointer→π,agg→χ
variable{v:ByteArray}{n:ω}{l i:Nat}
def VB(k:Nat)(t:ByteArray)(p:Nat)(n:Int):υ:=χ #[ι .u8 k,θ t,ι κ p,ι κ n]
def nr(k:Nat)(t:ByteArray)(n:Int):Tk->Prop
 |.stop=>k=0
 |.bad=>k=33
 |.word s=>k=119/\t=s/\n=0
 |.name s=>k=97/\t=s
 |.num m=>k=110/\n=m
 |.str s=>k=115/\t=s
 |.sign s=>k=112/\t=s
theorem fO{w:ω}(a:δ l n w){p:Addr}(e:l<=p.block)(d:υ):δ l n (w.setCell p d):=
 ⟨a.os,a.tape,a.output,by simp[World.setCell];exact a.size,λc b=>(ay _ _ _ _ (by omega)).trans (a.block c b)⟩
theorem aH{w:ω}(a:δ l n w):δ l n w.drew:=⟨a.os,a.tape,a.output,a.size,a.block⟩
theorem extract_zero(S:ByteArray)(b a:Nat)(d:b<a)(e:a<=S.size)(c:0<(S.extract b a).size):(S.extract b a)[0]=S[b]'(by omega):=by simp[ByteArray.getElem_extract]
theorem uW{d:Program}(w:ω)(e:TypeId)(c:ByteArray)(f:d.underlying e=σ .string)(b a:Nat)(g:b<=a)(i:a<=c.size) :
 (Instr.slice e (θ c) (σ (ι κ b)) (σ (ι κ a)) ν).run d w=.ok (θ (c.extract b a)) w:=by simp[Instr.slice,run_underlying f,Instr.sliceBounds,run_sliceBound, *]
def qQ(S:ByteArray)(i e:Nat)(h:i<S.size):Tk:=
 if dh S[i]then(if 8<e - i then .bad else if cC.any (iZ (S.extract i e))then .word (S.extract i e)else .name (S.extract i e))
 else if 19<e - i\/9223372036854775807<nK (S.extract i e).data.toList then .bad else .num (nK (S.extract i e).data.toList)
theorem ad7(a:Ch v=σ l):l<=9223372036854775807:=by unfold Ch at a;split at a;{cases a};cases a;omega
theorem Laid.below{w:ω}(d:Laid w)(e:δ w.heap.size w n):Laid n:=by intro b g f;have a:=d b g f;have c:0<w.heap.size:=bz _ _ a;exact(e.cell (p:=⟨0,b,ν⟩) c).trans a
theorem Zy(p:Nat)(x:fQ)(b:Nat)(w:ω)(g:tr w p x)(C:Laid w)(O:x.pos<b)(P:b<=x.S.size)
 (B:dh (x.S[x.pos]'(by omega))=false->∀i (U:i<(x.S.extract x.pos b).size),dk (x.S.extract x.pos b)[i]=true) :
 Calls prog 32 #[π (σ ⟨p,0,ν⟩),ι κ b] w λV W=>
 ∃r G d,V=τ (VB r G x.pos d)/\nr r G d (qQ x.S x.pos b (by omega))/\r<256/\cK d/\δ w.heap.size w W:=by
 have Y:w.cell? ⟨p,0,ν⟩=σ (θ x.S):=g.cell 0;have Z:w.cell? ⟨p,1,ν⟩=σ (ι κ x.pos):=g.cell 1;have cL:=g.lt;have F:(x.S.extract x.pos b).size=b - x.pos:=by rw[cZ];omega
 have D:=extract_zero x.S x.pos b O P (by omega);have L:=C;have X:=g;clear C g;have g1:(x.pos:Int)<=b:=by omega
 have g2:(b:Int)<=x.S.size:=by omega
 have g3:¬(b:Int)<x.pos:=by omega
 have g4:¬(x.S.size:Int)<b:=by omega
 obtain⟨a,j⟩:=nm (x.S.extract x.pos b);have T:a.size=b - x.pos:=by rw[j];exact F
 have A:∀h0:0<a.size,a[0]=x.S[x.pos]'(by omega):=by subst j;exactλ_=>D
 have y:dh (x.S[x.pos]'(by omega))=false->∀i (U:i<a.size),dk a[i]=true:=by subst j;exact B
 have n:=ak j;have M:=ak A;have I:=ak y;clear j A y B D F;go_in;go_wp2_with fail;go_region;rw[<- n.J];go_wp2_with fail;have R:0<a.size:=by omega
 refine(wJ _ _).mono ?_;rintro v H ⟨rfl,rfl⟩;have z:iI a[0].toNat=dh x.S[x.pos]:=by rw[<- M.J R];rfl
 rw[z];have u:∀(s t:Obj),Laid ((w.alloc s).alloc t).drew:=λs t=>L.below (aH (((ah _ _).alloc (ae _) s).alloc (by simp) t));have N:=ak u;clear u z;by_cases l:dh x.S[x.pos]=true
 .rw[l];go_wp2_with fail;refine(Nu a _ (N.J _ _)).mono ?_;rintro v H ⟨rfl,rfl⟩;have k:qQ x.S x.pos b (by omega)=if 8<b - x.pos then .bad else if cC.any (iZ a)then .word a else .name a:=by
   unfold qQ;rw[aF l,n.J]
  have e:=ak k;clear k;by_cases o:8<b - x.pos;{have Q:(8:Int)<a.size:=(by omega);have c:qQ x.S x.pos b (by omega)=.bad:=(by rw[e.J,aF o]);have f:=ak c;clear c;cases cC.any (iZ a);{go_wp2_with fail;go_returns;exact⟨33,a,0,rfl,by rw[f.J];exact rfl,by decide,by unfold cK;decide,aH (((ah _ _).alloc (ae _) _).alloc (by simp) _)⟩};go_wp2_with fail;go_returns;exact⟨33,a,0,rfl,by rw[f.J];exact rfl,by decide,by unfold cK;decide,aH (((ah _ _).alloc (ae _) _).alloc (by simp) _)⟩};have Q:¬(8:Int)<a.size:=(by omega);cases yf:cC.any (iZ a);{have c:qQ x.S x.pos b (by omega)=.name a:=(by rw[e.J,aE o,yf];rfl);have f:=ak c;clear c;go_wp2_with fail;go_returns;exact⟨97,a,0,rfl,by rw[f.J];exact⟨rfl,rfl⟩,by decide,by unfold cK;decide,aH (((ah _ _).alloc (ae _) _).alloc (by simp) _)⟩};have c:qQ x.S x.pos b (by omega)=.word a:=(by rw[e.J,aE o,yf];rfl);have f:=ak c;clear c;go_wp2_with fail;go_returns;exact⟨119,a,0,rfl,by rw[f.J];exact⟨rfl,rfl,rfl⟩,by decide,by unfold cK;decide,aH (((ah _ _).alloc (ae _) _).alloc (by simp) _)⟩
 have E:dh x.S[x.pos]=false:=by simpa using l
 rw[E];go_wp2_with fail;refine(QR a _ (I.J E)).mono ?_;rintro v H ⟨rfl,rfl⟩;have k:qQ x.S x.pos b (by omega)=(match Ch a with|some d=>.num d|none=>.bad):=by
  unfold qQ Ch;rw[aE l,T,n.J];split<;>rfl
 have e:=ak k;clear k
 cases hn:Ch a with
 |none=>
   rw[DH hn];go_wp2_with fail;go_returns;exact⟨33,a,0,rfl,by rw[e.J,hn];exact rfl,by decide,by unfold cK;decide,aH (((ah _ _).alloc (ae _) _).alloc (by simp) _)⟩
 |some d=>
   rw[Ki hn];go_wp2_with fail;go_returns;exact⟨110,a,d,rfl,by rw[e.J,hn];exact⟨rfl,rfl⟩,by decide,by have:=ad7 hn;unfold cK;omega,aH (((ah _ _).alloc (ae _) _).alloc (by simp) _)⟩
def tu(S:ByteArray)(i:Nat)(h:i<S.size):Tk:=if eI S i h=0 then .bad else .sign (S.extract i (i+eI S i h))
theorem rH(w:ω)(a:Obj)(c:Nat):δ w.heap.size w ((w.alloc a).drewN c)/\((w.alloc a).drewN c).heap[w.heap.size]?=σ a:=by have b:δ w.heap.size w (w.alloc a):=(ah _ _).alloc (ae _) a;refine⟨⟨b.os,b.tape,b.output,b.size,b.block⟩,au w a⟩
structure azv (W:ω)(r:Nat):Prop where
 c0:∃v,W.cell? ⟨r,0,ν⟩=σ v
 c1:∃v,W.cell? ⟨r,1,ν⟩=σ v
 c2:∃v,W.cell? ⟨r,2,ν⟩=σ v
 c3:∃v,W.cell? ⟨r,3,ν⟩=σ v
 fz:∀i,W.frozen? ⟨r,i,ν⟩=false
def tw:List UInt8:=[40,41,44,124,58,61,60,62,43,45,42,47,37]
theorem Nv{S:ByteArray}{h:l<S.size}(a:l+1<S.size)(b:(S[l].toNat=60/\(S[l+1].toNat=62\/S[l+1].toNat=61))\/(S[l].toNat=62/\S[l+1].toNat=61)):eI S l h=2:=by unfold eI;rw[jH a,aF b]
theorem Nw{S:ByteArray}{h:l<S.size}(c:∀a:l+1<S.size,¬((S[l].toNat=60/\(S[l+1].toNat=62\/S[l+1].toNat=61))\/(S[l].toNat=62/\S[l+1].toNat=61)))(d:S[l]∈tw):eI S l h=1:=by have b:S[l].toNat∈[40,41,44,124,58,61,60,62,43,45,42,47,37]:=mr (f:=UInt8.toNat) d;unfold eI;simp only;rw[aE ?_,aF b];split;{rename_i a;exact c a};omega
theorem Ly{S:ByteArray}{h:l<S.size}(e:∀a:l+1<S.size,¬((S[l].toNat=60/\(S[l+1].toNat=62\/S[l+1].toNat=61))\/(S[l].toNat=62/\S[l+1].toNat=61)))(g:¬S[l]∈tw):eI S l h=0:=by have b:¬S[l].toNat∈[40,41,44,124,58,61,60,62,43,45,42,47,37]:=(by intro d;have:S[l].toNat∈tw.map UInt8.toNat:=d;rw[cE]at this;obtain⟨i,c,f⟩:=this;have:=jg.mp f;subst this;exact g c);unfold eI;simp only;rw[aE ?_,aE b];split;{rename_i a;exact e a};omega
theorem ZA(p:Nat)(x:fQ)(w:ω)(c:tr w p x)(d:x.pos<x.S.size)(N:x.S.size<=300)(y:x.pos+1<x.S.size)
 (g:(x.S[x.pos].toNat=60/\(x.S[x.pos+1].toNat=62\/x.S[x.pos+1].toNat=61))\/(x.S[x.pos].toNat=62/\x.S[x.pos+1].toNat=61)) :
 Calls prog 34 #[π (σ ⟨p,0,ν⟩)] w λz A=>
 ∃i k j,z=τ (VB i k x.pos j)/\nr i k j (tu x.S x.pos d)/\k.size=eI x.S x.pos d/\i<256/\cK j/\δ w.heap.size w A:=by
 have D:w.cell? ⟨p,0,ν⟩=σ (θ x.S):=c.cell 0;have E:w.cell? ⟨p,1,ν⟩=σ (ι κ x.pos):=c.cell 1;have F:=c.lt;clear c;have I:(x.pos:Int)<x.S.size:=by omega
 obtain⟨q,e⟩:=nm (x.pos+1:Nat);obtain⟨a,C⟩:∃a:Nat,(x.pos:Int)+2=a:=⟨x.pos+2,by omega⟩;have l:=ak (Nv (h:=d) y g);have O:(x.pos:Int)+1=q:=by omega
 have P:q<x.S.size:=by omega
 have r:(x.S[x.pos].toNat=60/\(x.S[q].toNat=62\/x.S[q].toNat=61))\/(x.S[x.pos].toNat=62/\x.S[q].toNat=61):=by subst e;exact g
 have B:=ak e;clear g e;have L:(q:Int)<x.S.size:=by omega
 have M:(a:Int)<=x.S.size:=by omega
 have u:a<=x.S.size:=by omega
 have v:x.pos<=a:=by omega
 have Q:∀w,(Instr.slice 9 (θ x.S) (σ (ι κ x.pos)) (σ (ι κ a)) ν).run prog w=.ok (θ (x.S.extract x.pos a)) w:=λw=>uW w 9 x.S underlying9 x.pos a v u;have n:(x.S.extract x.pos a).size=2:=by rw[cZ];omega
 have o:tu x.S x.pos d=.sign (x.S.extract x.pos a):=(by unfold tu;rw[l.J,aE (by omega),show x.pos+2=a from by omega]);have t:=ak n;have s:=ak o;clear n o;go_in;go_wp2_with fail;go_quiet(fail);go_wp2_with fail;go_quiet(fail);go_wp2_with fail;go_quiet(fail);rcases r with⟨f,b|b⟩|⟨f,b⟩
 all_goals
  have G:(x.S[x.pos].toNat:Int)=_:=bn Nat.cast f;have H:(x.S[q].toNat:Int)=_:=bn Nat.cast b;clear f b;go_wp2_with fail;go_region;go_wp2_with fail;go_returns;exact⟨112,_,0,rfl,by rw[s.J];exact⟨rfl,rfl⟩,by rw[t.J,l.J],by decide,by unfold cK;decide,
   fO (fO (fO (fO (rH w _ _).1 (ae _) _) (ae _) _) (ae _) _) (ae _) _⟩
theorem aim(w:ω)(a m:Nat):(w.drewN a).drewN m=w.drewN (a+m):=by simp
theorem ain(w:ω)(b m a:Nat):((w.drewN b).drewN m).drewN a=w.drewN (b+m+a):=by simp
theorem Gv(p:Nat)(x:fQ)(w:ω)(j:tr w p x)(k:x.pos<x.S.size)(h3:x.S.size<=300)
 (y:∀h2:x.pos+1<x.S.size,¬((x.S[x.pos].toNat=60/\(x.S[x.pos+1].toNat=62\/x.S[x.pos+1].toNat=61))\/(x.S[x.pos].toNat=62/\x.S[x.pos+1].toNat=61))) :
 Calls prog 34 #[π (σ ⟨p,0,ν⟩)] w λaa w'=>
 ∃t F E,aa=τ (VB t F x.pos E)/\nr t F E (tu x.S x.pos k)/\F.size=eI x.S x.pos k/\t<256/\cK E/\δ w.heap.size w w':=by
 have c0:w.cell? ⟨p,0,ν⟩=σ (θ x.S):=j.cell 0;have c1:w.cell? ⟨p,1,ν⟩=σ (ι κ x.pos):=j.cell 1;have cL:=j.lt;have HP:=j;clear j;have g1:(x.pos:Int)<x.S.size:=by omega
 obtain⟨q,A⟩:=nm (x.pos+1:Nat);have hq:(x.pos:Int)+1=q:=by omega
 have H:∀h2:q<x.S.size,¬((x.S[x.pos].toNat=60/\(x.S[q].toNat=62\/x.S[q].toNat=61))\/(x.S[x.pos].toNat=62/\x.S[q].toNat=61)):=by subst A;exact y
 have g7:q<=x.S.size:=by omega
 have g8:x.pos<=q:=by omega
 have ac:∀w,(Instr.slice 9 (θ x.S) (σ (ι κ x.pos)) (σ (ι κ q)) ν).run prog w=.ok (θ (x.S.extract x.pos q)) w:=λw=>uW w 9 x.S underlying9 x.pos q g8 g7;have L:(x.S.extract x.pos q).size=1:=by rw[cZ];omega
 have Q:x.S[x.pos]∈tw->eI x.S x.pos k=1/\tu x.S x.pos k=.sign (x.S.extract x.pos q):=λl=>by
  have r:=Nw (h:=k) y l;exact⟨r,by unfold tu;rw[r,aE (by omega),show x.pos+1=q from by omega]⟩
 have M:¬x.S[x.pos]∈tw->eI x.S x.pos k=0/\tu x.S x.pos k=.bad:=λl=>by
  have r:=Ly (h:=k) y l;exact⟨r,by unfold tu;rw[r,aF rfl]⟩
 have X:=ak L;have W:=ak Q;have V:=ak M;have U:=ak H;have HQ:=ak A;clear L Q M y H A;refine(Classical.em (q<x.S.size)).elim (λO=>?a) (λO=>?b);(case' a=>have g2:(q:Int)<x.S.size:=(by omega);have B:=U.J O;refine(Classical.em ((x.S[x.pos].toNat:Int)=60)).elim (λD=>?c) (λD=>?d);(case' c=>have e1:((x.S[q].toNat:Int)==62)=false:=(by rw[aL];omega);have e2:((x.S[q].toNat:Int)==61)=false:=(by rw[aL];omega);clear B);case' d=>have Z:((x.S[x.pos].toNat:Int)==60)=false:=(by rw[aL];omega);refine(Classical.em ((x.S[x.pos].toNat:Int)=62)).elim (λP=>?e) (λP=>?f);(case' e=>have e2:((x.S[q].toNat:Int)==61)=false:=(by rw[aL];omega);clear B D Z);case' f=>have ab:((x.S[x.pos].toNat:Int)==62)=false:=(by rw[aL];omega);clear B D P);case' b=>have g2:¬(q:Int)<x.S.size:=by omega
 all_goals
  go_in;go_wp2_with fail;(repeat(go_quiet(fail);go_wp2_with fail));go_loopw[6] (λG wr=>∃g:Nat,g<=13/\G=ι κ g/\(∃t,wr=(w.alloc (ξ #[ι .u8 0,θ ⟨#[]⟩,ι κ 0,ι κ 0] 64)).drewN t)/\Hid (∀i:Nat,i<g->∀n,tw[i]?=σ n->n≠x.S[x.pos])) (λG _=>13 - (intOf G).toNat);case atStart=>exact⟨0,by omega,rfl,by first|exact⟨_,rfl⟩|exact⟨_,aim _ _ _⟩|exact⟨_,ain _ _ _ _⟩,ak (λi z=>by omega)⟩
  case round=>
   obtain⟨g,hi,rfl,⟨t,rfl⟩,I⟩:=hrel;by_cases N:g<13
   .have g3:(g:Int)<13:=(by omega);obtain⟨u,o⟩:∃u,tw[g]?=σ u:=⟨tw[g]'N,af _⟩;have YR:∀j,(ByteArray.mk #[40,41,44,124,58,61,60,62,43,45,42,47,37])[g]'j=u:=λj=>by
     have:tw[g]?=σ ((ByteArray.mk #[40,41,44,124,58,61,60,62,43,45,42,47,37])[g]'j):=by
      rw[af N];rfl
     rw[this]at o;exact bf o
    by_cases s:u=x.S[x.pos];{have T:((u.toNat:Int)==(x.S[x.pos].toNat:Int))=true:=(by rw[s];simp);have l:x.S[x.pos]∈tw:=(by rw[<- s];exact aA o);have v:=ak (W.J l);clear o s l;go_wp2_with fail;go_region;go_wp2_with fail;go_returns;exact⟨112,_,0,rfl,by rw[v.J.2];exact⟨rfl,rfl⟩,by rw[X.J,v.J.1],by decide,by unfold cK;decide,fO (fO (fO (fO (rH w _ _).1 (ae _) _) (ae _) _) (ae _) _) (ae _) _⟩}
    have T:((u.toNat:Int)==(x.S[x.pos].toNat:Int))=false:=(by rw[aL];intro r;exact s (jg.mp (by omega)))
    have Y:Hid (∀i:Nat,i<g+1->∀n,tw[i]?=σ n->n≠x.S[x.pos]):=ak (λi z n C=>by
     by_cases R:i=g
     . subst R;rw[o]at C;cases C;exact s
     . exact I.J i (by omega) n C)
    clear o s;go_wp2_with fail;go_roundw;(case rel=>exact⟨g+1,by omega,by go_num,⟨_,rfl⟩,Y⟩);case measure=>simp[intOf];omega
   obtain rfl:g=13:=(by omega)
   have v:=ak (V.J (λl=>by
    obtain⟨i,z⟩:=dz l;have:i<13:=(aj.mp z).1;exact I.J i this _ z rfl))
   go_wp2_with fail;go_returns;exact⟨33,⟨#[]⟩,0,rfl,by rw[v.J.2];rfl,by rw[v.J.1];rfl,by decide,by unfold cK;decide,fO (fO (fO (fO (rH w _ _).1 (ae _) _) (ae _) _) (ae _) _) (ae _) _⟩
theorem ZB(p:Nat)(x:fQ)(w:ω)(b:tr w p x)(a:x.pos<x.S.size)(c:x.S.size<=300) :
 Calls prog 34 #[π (σ ⟨p,0,ν⟩)] w λk l=>
 ∃d f e,k=τ (VB d f x.pos e)/\nr d f e (tu x.S x.pos a)/\f.size=eI x.S x.pos a/\d<256/\cK e/\δ w.heap.size w l:=by by_cases g:x.pos+1<x.S.size;{by_cases i:(x.S[x.pos].toNat=60/\(x.S[x.pos+1].toNat=62\/x.S[x.pos+1].toNat=61))\/(x.S[x.pos].toNat=62/\x.S[x.pos+1].toNat=61);{exact ZA p x w b a c g i};exact Gv p x w b a c (λ_=>i)};exact Gv p x w b a c (λj=>absurd j g)
def Bl(S:ByteArray)(i:Nat):Tk:=
 if h2:aS S fq (i+1)<S.size then(if S[aS S fq (i+1)].toNat=39/\aS S fq (i+1) - i - 1<=12 then .str (S.extract (i+1) (aS S fq (i+1)))else .bad)else .bad
def sH(S:ByteArray)(i:Nat):Nat:=
 if h2:aS S fq (i+1)<S.size then(if S[aS S fq (i+1)].toNat=39/\aS S fq (i+1) - i - 1<=12 then aS S fq (i+1) - i - 1 else 0)else 0
theorem ZC{S:ByteArray}(c:aS S fq (l+1)=i)(b:∀a:i<S.size,¬(S[i].toNat=39/\i - l - 1<=12)):Bl S l=.bad/\sH S l=0:=by subst c;unfold Bl sH;split;{rename_i a;rw[aE (b a),aE (b a)];exact⟨rfl,rfl⟩};exact⟨rfl,rfl⟩
theorem VD{S:ByteArray}(c:aS S fq (l+1)=i)(a:i<S.size)(b:S[i].toNat=39/\i - l - 1<=12):Bl S l=.str (S.extract (l+1) i)/\sH S l=i - l - 1:=by subst c;unfold Bl sH;rw[jH a,jH a,aF b,aF b];exact⟨rfl,rfl⟩
theorem yt(b:UInt8):fq b=true↔32<=b.toNat/\b.toNat<=126/\b.toNat≠39:=by unfold fq;rw[cP,cP,dt,dt,uR,fP];exact⟨λa=>⟨a.1.1,a.1.2,a.2⟩,λa=>⟨⟨a.1,a.2.1⟩,a.2.2⟩⟩
theorem QS(p:Nat)(x:fQ)(w:ω)(b:tr w p x)(P:x.pos<x.S.size)(Q:x.S.size<=300):Calls prog 33 #[π (σ ⟨p,0,ν⟩)] w λF G=>
 ∃f s r,F=τ (VB f s x.pos r)/\nr f s r (Bl x.S x.pos)/\s.size=sH x.S x.pos/\f<256/\cK r/\δ w.heap.size w G:=by
 have I:w.cell? ⟨p,0,ν⟩=σ (θ x.S):=b.cell 0;have L:w.cell? ⟨p,1,ν⟩=σ (ι κ x.pos):=b.cell 1;have M:=b.lt;clear b;go_in;go_wp2_with fail;go_loopw[3] (λt wr=>∃a:Nat,x.pos+1<=a/\a<=x.S.size/\t=ι κ a/\(∃f,wr=(w.alloc (ξ #[ι .u8 0,θ ⟨#[]⟩,ι κ 0,ι κ 0] 64)).drewN f)/\Hid (aS x.S fq (x.pos+1)=aS x.S fq a)) (λt _=>x.S.size - (intOf t).toNat);case atStart=>exact⟨x.pos+1,by omega,by omega,by go_num,⟨0,rfl⟩,ak rfl⟩
 case round=>
  obtain⟨a,T,E,rfl,⟨f,rfl⟩,v⟩:=hrel;by_cases c:∃_:a<x.S.size,fq x.S[a]=true;{obtain⟨d,c⟩:=c;have n:(a:Int)<x.S.size:=(by omega);have B:=ak (v.J.trans (iJ _ _ _ d c));obtain⟨l,z,e⟩:=(yt _).mp c;have l:(32:Int)<=x.S[a].toNat:=(by omega);have z:(x.S[a].toNat:Int)<=126:=(by omega);have C:((x.S[a].toNat:Int)==39)=false:=(by rw[aL];omega);clear c e;go_wp2_with fail;go_roundw;(case rel=>exact⟨a+1,by omega,by omega,by go_num,⟨_,rfl⟩,B⟩);case measure=>simp[intOf];omega}
  have j:aS x.S fq (x.pos+1)=a:=(by rw[v.J];by_cases d:a<x.S.size;{exact mU _ _ _ d (jX.mpr λb=>c ⟨d,b⟩)};exact nT _ _ _ d);by_cases k:∃_:a<x.S.size,(x.S[a].toNat:Int)=39/\(a:Int) - x.pos - 1<=12
  .obtain⟨d,e,N⟩:=k;have n:(a:Int)<x.S.size:=(by omega);clear c;obtain⟨q,u⟩:=nm (x.pos+1:Nat);have U:(x.pos:Int)+1=q:=(by omega);have D:q<=a:=(by omega);have V:∀w,(Instr.slice 9 (θ x.S) (σ (ι κ q)) (σ (ι κ a)) ν).run prog w=.ok (θ (x.S.extract q a)) w:=λw=>uW w 9 x.S underlying9 q a D E;have y:(x.S.extract q a).size=a - x.pos - 1:=(by rw[cZ];omega)
   have o:=VD j d (by omega);rw[<- u]at o;have g:=ak o;have A:=ak y;clear j y u o;go_wp2_with fail;go_region;go_wp2_with fail;go_returns;exact⟨115,_,0,rfl,by rw[g.J.1];exact⟨rfl,rfl⟩,by rw[A.J,g.J.2],by decide,by unfold cK;decide,
    fO (fO (fO (fO (rH w _ _).1 (ae _) _) (ae _) _) (ae _) _) (ae _) _⟩
  have g:=ak (ZC j (λi R=>by
   refine gJ λH=>k ⟨i,by omega,by omega⟩))
  rcases(show(¬(a:Int)<x.S.size)\/∃_:a<x.S.size,(a:Int)<x.S.size/\(((x.S[a].toNat:Int)=39/\¬((a:Int) - x.pos - 1<=12))\/(((x.S[a].toNat:Int)==39)=false/\(¬(32:Int)<=x.S[a].toNat\/(32:Int)<=x.S[a].toNat/\¬(x.S[a].toNat:Int)<=126)))from by
   by_cases i:a<x.S.size
   . refine .inr ⟨i,by omega,?_⟩
     by_cases e:(x.S[a].toNat:Int)=39
     . exact .inl ⟨e,λb=>k ⟨i,e,b⟩⟩
     . refine .inr ⟨by rw[aL];exact e,?_⟩
       have:=mt (yt x.S[a]).mpr λb=>c ⟨i,b⟩;omega
   . exact .inl (by omega))with n|⟨d,n,⟨e,O⟩|⟨C,l|⟨l,z⟩⟩⟩
  all_goals
   clear j c k;go_wp2_with fail;go_returns;exact⟨33,⟨#[]⟩,0,rfl,by rw[g.J.1];rfl,by rw[g.J.2];rfl,by decide,by unfold cK;decide,
    fO (fO (fO (fO (rH w _ _).1 (ae _) _) (ae _) _) (ae _) _) (ae _) _⟩
def Other(p:Nat)(w:ω)(k:Nat):Prop:=k≠p/\k<w.heap.size
theorem tr.Nx{w:ω}{p:Nat}{x:fQ}(b:tr w p x)(a:Nat):tr (w.setCell (Ad p 1) (ι κ a)) p { x with pos:=a }:=b.set 1 _ (by simp[iL])
theorem tr.drewN{w:ω}{p:Nat}{x:fQ}(a:tr w p x)(b:Nat):tr (w.drewN b) p x:=a
theorem tr.tok{w:ω}{p:Nat}{x:fQ}(e:tr w p x)(a:Nat)(b:ByteArray)(c:Nat)(d:Int) :
 tr ((((w.setCell (Ad p 2) (ι .u8 a)).setCell (Ad p 3) (θ b)).setCell (Ad p 4) (ι κ c)).setCell (Ad p 5) (ι κ d)) p { x with tk:=a,tt:=b,tp:=c,tn:=d }:=by have f:tr (w.setCell (Ad p 2) (ι .u8 a)) p { x with tk:=a }:=e.set 2 _ (by simp[iL]);have g:tr ((w.setCell (Ad p 2) (ι .u8 a)).setCell (Ad p 3) (θ b)) p { x with tk:=a,tt:=b }:=f.set 3 _ (by simp[iL]);have i:tr (((w.setCell (Ad p 2) (ι .u8 a)).setCell (Ad p 3) (θ b)).setCell (Ad p 4) (ι κ c)) p { x with tk:=a,tt:=b,tp:=c }:=g.set 4 _ (by simp[iL]);exact i.set 5 _ (by simp[iL])
theorem aX.drewN{K:Nat->Prop}{w:ω}(a:aX K n w)(b:Nat):aX K n (w.drewN b):=⟨a.os,a.tape,a.output,a.size,a.block⟩
theorem aX.own{p:Nat}{w:ω}(a:aX (Other p n) n w)(b:Nat)(c:υ):aX (Other p n) n (w.setCell (Ad p b) c):=a.setCell (p:=(Ad p b)) (λa=>a.1 rfl) c
theorem aX.tok{p:Nat}{w:ω}(e:aX (Other p n) n w)(a b c d:υ):aX (Other p n) n ((((w.setCell (Ad p 2) a).setCell (Ad p 3) b).setCell (Ad p 4) c).setCell (Ad p 5) d):=
 (((e.own 2 a).own 3 b).own 4 c).own 5 d
theorem aX.QU{p:Nat}{w c:ω}(b:aX (Other p n) n w)(a:δ w.heap.size w c):aX (Other p n) n c:=
 b.trans ⟨a.os,a.tape,a.output,a.size,λe d=>a.block e (ai d.2 b.size)⟩
theorem Laid.keeps{p:Nat}{w:ω}(d:Laid n)(e:aX (Other p n) n w)(i:0<p):Laid w:=by intro b g f;have a:=d b g f;have c:0<n.heap.size:=bz _ _ a;exact(e.cell (p:=(Ad 0 b)) ⟨by simp;omega,c⟩).trans a
structure aip (x x':fQ):Prop where
 same:x'={ x with pos:=x'.pos,tk:=x'.tk,tt:=x'.tt,tp:=x'.tp,tn:=x'.tn }
 k:x'.tk<256
 n:cK x'.tn
 tok:∀h:aS x.S cz x.pos<x.S.size,nr x'.tk x'.tt x'.tn (fN x.S (aS x.S cz x.pos) h).1/\x'.tp=aS x.S cz x.pos/\x'.pos=(fN x.S (aS x.S cz x.pos) h).2
 fin:¬aS x.S cz x.pos<x.S.size->x'.tk=0/\x'.tp=x.S.size/\x'.pos=aS x.S cz x.pos
theorem Ft(a:iI l=true):kE l=false:=by unfold iI at a;unfold kE;rw[cP,dt,dt]at a;rw[Bool.and_eq_false_iff,fP,fP];omega
def fu(c d:UInt8):Bool:=(dh c&&dh d)||(dk c&&dk d)
theorem AQ(S:ByteArray)(a b:UInt8->Bool)(e:∀c,a c=b c)(d:Nat):aS S a d=aS S b d:=by have:a=b:=funext e;rw[this]
theorem QV(S:ByteArray)(a:Nat)(e:a<S.size)(f:fu S[a] S[a]=true):fN S a e=(qQ S a (aS S (fu S[a]) a) e,aS S (fu S[a]) a):=by
 unfold fu at f;by_cases b:dh S[a]=true
 .have d:aS S (fu S[a]) a=aS S dh a:=AQ _ _ _ (λg=>by
   unfold fu;have c:dk S[a]=false:=by
    unfold dh iI at b;unfold dk kE;rw[cP,dt,dt]at b;rw[Bool.and_eq_false_iff,fP,fP];omega
   rw[b,c];simp) a
  rw[d];unfold fN qQ;rw[aF b,aF b];simp only;split;{rfl};split<;>rfl
 have c:dk S[a]=true:=by simpa[b]using f
 have d:aS S (fu S[a]) a=aS S dk a:=AQ _ _ _ (λg=>by
  unfold fu;rw[c,jX.mpr b];simp) a
 rw[d];unfold fN qQ;rw[aE b,aE b,aF c];simp only;split<;>rfl
theorem QW(S:ByteArray)(a:Nat)(c:a<S.size)(b:S[a].toNat=39):fN S a c=(Bl S a,a+sH S a+2):=by
 have e:¬dh S[a]=true:=by unfold dh iI;rw[b];decide
 have d:¬dk S[a]=true:=by unfold dk kE;rw[b];decide
 have i:=fl S fq (a+1);unfold fN Bl sH;rw[aE e,aE d,aF b];simp only;split;{split;{rename_i f g;refine zI rfl ?_;simp only;omega};rfl};rfl
theorem QX(S:ByteArray)(a:Nat):sH S a<=12:=by unfold sH;split;{split<;>omega};omega
theorem QY(S:ByteArray)(a:Nat)(c:a<S.size)(b:fu S[a] S[a]=false)(e:¬S[a].toNat=39):fN S a c=(tu S a c,a+eI S a c):=by unfold fu at b;rw[Bool.or_eq_false_iff,Bool.and_self,Bool.and_self]at b;unfold fN tu;rw[aE (by rw[b.1];decide),aE (by rw[b.2];decide),aE e];simp only;split;{rename_i d;rw[d];rfl};rfl
theorem F2(S:ByteArray)(d:UInt8->Bool)(b a:Nat)(j:b<=a)(c:a<aS S d b):∃i:a<S.size,d S[a]=true:=by
 rw[aS]at c;split at c
 . rename_i g
   split at c
   . rename_i f
     by_cases e:a=b
     . subst e;exact⟨g,f⟩
     . exact F2 S d (b+1) a (by omega) c
   . omega
 . omega
 termination_by S.size - b
theorem Lz(S:ByteArray)(a c:Nat)(j:a<S.size)(i:c<=S.size)(n:aS S (fu S[a]) a=c)(g:dh S[a]=false) :
 ∀b (e:b<(S.extract a c).size),dk (S.extract a c)[b]=true:=by
 intro b e;have l:b<c - a:=by rw[cZ]at e;omega
 obtain⟨k,d⟩:=F2 S (fu S[a]) a (a+b) (by omega) (by omega);have f:(S.extract a c)[b]=S[a+b]:=ByteArray.getElem_extract ..;rw[f];unfold fu at d;rw[g]at d;simp at d;exact d.2
theorem QZ{S:ByteArray}(c:l<S.size)(b:aS S (fu S[l]) l=i)(d:l<i):fu S[l] S[l]=true:=by obtain⟨_,a⟩:=F2 S (fu S[l]) l l (ae _) (by omega);exact a
def Ul(b:Bool)(c d:UInt8):Prop:=iI c.toNat=true/\kE c.toNat=false/\iI d.toNat=b\/iI c.toNat=false/\kE c.toNat=true/\kE d.toNat=b
theorem VF{S:ByteArray}(c:l<S.size)(v:l<=i)(g:aS S (fu S[l]) l=aS S (fu S[l]) i) :
 (∃d:i<S.size,(i:Int)<S.size/\aS S (fu S[l]) l=aS S (fu S[l]) (i+1)/\Ul true S[l] S[i])
 \/(l<i/\aS S (fu S[l]) l=i/\fN S l c=(qQ S l i c,i)/\(¬(i:Int)<S.size\/∃d:i<S.size,(i:Int)<S.size/\Ul false S[l] S[i]))
 \/(l=i/\fu S[l] S[l]=false/\iI S[l].toNat=false/\kE S[l].toNat=false):=by
 have o:fu S[l] S[l]=true->aS S (fu S[l]) l=i->fN S l c=(qQ S l i c,i):=λb a=>by have:=QV S l c b;rwa[a]at this
 have r:fu S[l] S[l]=true->aS S (fu S[l]) l=i->l<i:=λb a=>by
  have s:=iJ S (fu S[l]) l c b;have t:=fl S (fu S[l]) (l+1);omega
 by_cases d:i<S.size;{have u:fu S[l] S[i]=(iI S[l].toNat&&iI S[i].toNat||kE S[l].toNat&&kE S[i].toNat):=rfl;have k:fu S[l] S[l]=(iI S[l].toNat&&iI S[l].toNat||kE S[l].toNat&&kE S[l].toNat):=rfl;by_cases e:iI S[l].toNat=false/\kE S[l].toNat=false;{have b:fu S[l] S[l]=false:=(by rw[k,e.1,e.2];rfl);have s:=mU S (fu S[l]) l c b;have t:=fl S (fu S[l]) i;exact .inr (.inr ⟨by omega,b,e⟩)};have b:fu S[l] S[l]=true:=(by rw[k];cases hL:iI S[l].toNat<;>cases f:kE S[l].toNat<;>first|rfl|exact absurd ⟨hL,f⟩ e);have j:Ul (fu S[l] S[i]) S[l] S[i]:=(by rw[u];unfold Ul;cases hL:iI S[l].toNat;{have f:kE S[l].toNat=true:=(by simpa[hL]using e);simp[f]};simp[Ft hL]);cases hE:fu S[l] S[i]<;>rw[hE]at j;{have a:=g.trans (mU _ _ _ d hE);exact .inr (.inl ⟨r b a,a,o b a,.inr ⟨d,by omega,j⟩⟩)};exact .inl ⟨d,by omega,g.trans (iJ _ _ _ d hE),j⟩};have a:=g.trans (nT _ _ _ d);have n:l<i:=(by omega);exact .inr (.inl ⟨n,a,o (QZ c a n) a,.inl (by omega)⟩)
theorem Ny(p:Nat)(x:fQ)(w:ω)(e:tr w p x)(X:Laid w)(Fu:0<p)(U:x.S.size<=300)(h4:x.pos<=x.S.size+1):Calls prog 22 #[π (σ (Ad p 0))] w λP i=>
 P=τ (.tuple #[])/\∃x',tr i p x'/\aip x x'/\aX (Other p w) w i:=by
 have HP:=ak e;have HL:=ak X;clear e X;go_in;go_wp2_with fail;go_loopw[] (λwr=>∃a:Nat,a<=x.S.size+1/\Hid (tr wr p { x with pos:=a })/\Hid (aX (Other p w) w wr)/\Hid (aS x.S cz x.pos=aS x.S cz a)) (λwr=>x.S.size+1 - (intOf ((wr.cell? (Ad p 1)).getD undef)).toNat);case atStart=>exact⟨x.pos,h4,HP,ak (aX.refl _ _),ak rfl⟩
 case round=>
  obtain⟨a,hi,b,B,F⟩:=hrel;have I:wr.cell? (Ad p 0)=σ (θ x.S):=b.J.cell 0;have l:wr.cell? (Ad p 1)=σ (ι κ a):=b.J.cell 1;have L:=b.J.fz 1;by_cases d:a<x.S.size
  .have g1:(a:Int)<x.S.size:=(by omega);by_cases hb:(x.S[a].toNat:Int)=32;{have o:cz x.S[a]=true:=(by unfold cz;rw[dt];omega);have j:=ak (F.J.trans (iJ _ _ _ d o));clear o;go_wp2_with fail;go_quiet(fail);go_wp2_with fail;go_roundw;(case rel=>refine⟨a+1,by omega,ak ?_,ak ((B.J.drewN _).own 1 _),j⟩;have:=(b.J.drewN nq).Nx (a+1);rwa[show(((a+1:Nat):Int))=(a:Int)+1 from by omega]at this);case measure=>have c:=mj (wr.drewN nq) (Ad p 1) (ι κ ((a:Int)+1)) (u:=ι κ a) l;rw[c,l];simp[intOf];omega}
   have yj:((x.S[a].toNat:Int)==32)=false:=(by rw[aL];exact hb);have o:cz x.S[a]=false:=(by unfold cz;rw[fP];omega);have j:=ak (F.J.trans (mU _ _ _ d o));clear o;go_wp2_with fail;go_quiet(fail);go_wp2_with fail;go_quiet(fail);go_wp2_with fail;go_quiet(fail);go_wp2_with fail;clear I l L;rw[show decide (x.S.size<=a)=false from by rw[fP];omega];go_loopw[3] (λQ ws=>∃c:Nat,a<=c/\c<=x.S.size/\Q=ι κ c/\Hid (tr ws p { x with pos:=a })/\Hid (aX (Other p w) w ws)/\Hid (aS x.S (fu x.S[a]) a=aS x.S (fu x.S[a]) c)) (λQ _=>x.S.size - (intOf Q).toNat);(case atStart=>exact⟨a,ae _,by omega,rfl,ak (b.J.drewN _),ak (B.J.drewN _),ak rfl⟩);case round=>
    obtain⟨c,ZD,V,rfl,f,C,HE⟩:=hrel;have I:wr.cell? (Ad p 0)=σ (θ x.S):=f.J.cell 0;have l:wr.cell? (Ad p 1)=σ (ι κ a):=f.J.cell 1;have L:=f.J.fz 1;rcases VF d ZD HE.J with⟨uX,M,R,N⟩|⟨W,Y,T,N⟩|⟨rfl,yu,u,t⟩
    .have ad:=ak R;clear R;rcases N with⟨u,t,A⟩|⟨u,t,A⟩
     all_goals(go_wp2_with(first|(go_at_call 30;refine(wJ _ _).mono ?_;rintro n i ⟨rfl,rfl⟩)|(go_at_call 31;refine(DG _ _).mono ?_;rintro n i ⟨rfl,rfl⟩));go_roundw;(case rel=>exact⟨c+1,by omega,by omega,by go_num,f,C,ad⟩);case measure=>simp[intOf];omega)
    case' inr.inl=>
     have an:(a:Int)<c:=(by omega);have E:=ak T;have G:=ak Y;clear T Y;rcases N with M|⟨uX,M,⟨u,t,A⟩|⟨u,t,A⟩⟩
     all_goals(go_wp2_with(first|(go_at_call 30;refine(wJ _ _).mono ?_;rintro n i ⟨rfl,rfl⟩)|(go_at_call 31;refine(DG _ _).mono ?_;rintro n i ⟨rfl,rfl⟩));refine(Zy p { x with pos:=a } c wr f.J (HL.J.keeps C.J Fu) W V (Lz x.S a c d V G.J)).mono ?_;rintro P k ⟨aa,r,ab,rfl,H,v,y,s⟩;have am:=W)
    (case' inr.inr=>have M:(a:Int)<x.S.size:=(by omega);by_cases al:(x.S[a].toNat:Int)=39;(case' pos=>have E:=ak (QW x.S a d (by omega)));(case' neg=>have ao:((x.S[a].toNat:Int)==39)=false:=(by rw[aL];exact al);have E:=ak (QY x.S a d yu (by omega)));all_goals(go_wp2_with(first|(go_at_call 30;refine(wJ _ _).mono ?_;rintro n i ⟨rfl,rfl⟩)|(go_at_call 31;refine(DG _ _).mono ?_;rintro n i ⟨rfl,rfl⟩));(first|refine(QS p { x with pos:=a } wr f.J d U).mono ?_|refine(ZB p { x with pos:=a } wr f.J d U).mono ?_);rintro P k ⟨aa,r,ab,rfl,H,O,v,y,s⟩;have am:r.size<=300:=(by rw[O];first|exact ag (QX x.S a) (by omega)|exact ag (Bh x.S a d).1 (by omega));have G:=ak O;clear O));all_goals
     have g:tr k p { x with pos:=a }:=f.J.jM (s.block p f.J.lt);have D:=ak (C.J.QU s);have d1:k.cell? (Ad p 1)=σ (ι κ a):=g.cell 1;have d2:k.cell? (Ad p 2)=σ (ι .u8 x.tk):=g.cell 2;have d3:k.cell? (Ad p 3)=σ (θ x.tt):=g.cell 3;have d4:k.cell? (Ad p 4)=σ (ι κ x.tp):=g.cell 4;have d5:k.cell? (Ad p 5)=σ (ι κ x.tn):=g.cell 5;have m:=g.fz;have ac:=ak g;have HT:=ak H;clear g s H I l L;unfold VB;go_wp2_with fail;(try go_quiet(fail);go_wp2_with fail);go_end0;have z:=λ(nq:Nat) (q:Int) Z (hj:((Z:Nat):Int)=q)=>show tr _ _ _ from hj ▸ ((ac.J.tok aa r a ab).drewN nq).Nx Z
     first
      |refine⟨rfl,_,z 0 _ c rfl,⟨rfl,v,y,λe=>?_,λe=>?_⟩,(D.J.tok _ _ _ _).own 1 _⟩
      |refine⟨rfl,_,z _ _ (a+r.size+2) (by omega),⟨rfl,v,y,λe=>?_,λe=>?_⟩,((D.J.tok _ _ _ _).drewN _).own 1 _⟩
      |refine⟨rfl,_,z _ _ (a+r.size) (by omega),⟨rfl,v,y,λe=>?_,λe=>?_⟩,((D.J.tok _ _ _ _).drewN _).own 1 _⟩
     {have hx:=j.J;simp only[hx];rw[E.J];(try rw[G.J]);refine⟨HT.J,?_,?_⟩<;>first|rfl|trivial};exact absurd (by rw[j.J];exact d) e
  have g1:¬(a:Int)<x.S.size:=(by omega);have j:=ak (F.J.trans (nT _ _ _ d));have c2:wr.cell? (Ad p 2)=σ (ι .u8 x.tk):=b.J.cell 2;have c3:wr.cell? (Ad p 3)=σ (θ x.tt):=b.J.cell 3;have c4:wr.cell? (Ad p 4)=σ (ι κ x.tp):=b.J.cell 4;have c5:wr.cell? (Ad p 5)=σ (ι κ x.tn):=b.J.cell 5;have f2:=b.J.fz 2;have f3:=b.J.fz 3;have f4:=b.J.fz 4;have f5:=b.J.fz 5;go_wp2_with fail;go_quiet(fail);go_wp2_with fail;go_quiet(fail);go_wp2_with fail;go_returns;refine⟨rfl,_,(b.J.drewN _).tok 0 ⟨#[]⟩ x.S.size 0,⟨rfl,Nat.zero_lt_succ _,⟨by show(-9223372036854775808:Int)<=0;decide,by show(0:Int)<=9223372036854775807;decide⟩,λe=>?_,λ_=>⟨rfl,rfl,?_⟩⟩,(B.J.drewN _).tok _ _ _ _⟩;{rw[j.J]at e;omega};exact j.J.symm
structure kB where
 op:ByteArray
 pl:Nat
 first:Nat
 a:Nat
 b:Nat
 n:Int
 s:ByteArray
def ux(x:kB):List υ:=[θ x.op,ι κ x.pl,ι κ x.first,ι κ x.a,ι κ x.b,ι κ x.n,θ x.s]
def oK(l:List kB):List υ:=l.flatMap ux
theorem Q5(a:List kB):(oK a).length=a.length*7:=by
 induction a with
 |nil=>rfl
 |cons x a b=>simp[oK,ux]at b ⊢;omega
theorem Nz(a:List kB)(x:kB):oK (a++[x])=oK a++ux x:=by simp[oK]
theorem Bm(b:List kB)(a c:Nat)(f:c<7):(oK b)[a*7+c]?=(b[a]?).bind λx=>(ux x)[c]?:=by
 induction b generalizing a with
 |nil=>simp[oK]
 |cons x b e=>
   have d:oK (x::b)=ux x++oK b:=by simp[oK]
   rw[d]
   cases a with
   |zero=>rw[cw (by simp[ux];omega)];simp
   |succ a=>
     rw[bp (by simp[ux];omega)];have:(a+1)*7+c - (ux x).length=a*7+c:=by simp[ux];omega
     rw[this,e];simp
structure Rest (x x':fQ):Prop where
 S:x'.S=x.S
 deep:x'.deep=x.deep
 word:x'.word=x.word
 Jp:x'.Jp=x.Jp
 Jq:x'.Jq=x.Jq
 Jr:x'.Jr=x.Jr
 Js:x'.Js=x.Js
 names:x'.names=x.names
 kinds:x'.kinds=x.kinds
 rows:x'.rows=x.rows
 cond:x'.cond=x.cond
 eQ:x'.eQ=x.eQ
theorem Rest.refl(x:fQ):Rest x x:=⟨rfl,rfl,rfl,rfl,rfl,rfl,rfl,rfl,rfl,rfl,rfl,rfl⟩
theorem Rest.trans{x c d:fQ}(a:Rest x c)(b:Rest c d):Rest x d:=
 ⟨b.S.trans a.S,b.deep.trans a.deep,b.word.trans a.word,b.Jp.trans a.Jp,b.Jq.trans a.Jq,b.Jr.trans a.Jr,b.Js.trans a.Js,b.names.trans a.names,b.kinds.trans a.kinds,b.rows.trans a.rows,b.cond.trans a.cond,b.eQ.trans a.eQ⟩
def Bn(x:fQ):Mode->Prop
 |.live t ts=>x.e=0/\nr x.tk x.tt x.tn t.k/\x.tp=t.pl/\(t.k.ends=false->ts=fM x.S x.pos)/\(t.k.ends=true->ts=[])
 |.dead e b=>x.e=e/\x.bad=b/\e≠0
structure ib (K:Nat->Prop)(w:ω)(p:Nat)(x:fQ)(m:Mode)(ns:List kB):Prop where
 pen:tr w p x
 laid:Laid w
 p0:0<p
 Bp:x.S.size<=300
 pos:x.pos<=x.S.size+1
 tk:x.tk<256
 tn:cK x.tn
 tp:x.tp<=x.S.size
 mode:Bn x m
 own:w.ownsRow 0 233 7 x.nodes ns.length (oK ns)
 apart:x.nodes.ownBlock≠σ p
 k0:K 0
 kp:¬K p
 kv:∀g,x.nodes.ownBlock=σ g->¬K g
 old:∀k,K k->k<w.heap.size
theorem ib.other{K:Nat->Prop}{w:ω}{p:Nat}{x:fQ}{m:Mode}{ns:List kB}(b:ib K w p x m ns):∀a,K a->Other p w a:=
 λa c=>⟨λd=>b.kp (d ▸ c),b.old a c⟩
theorem Bq(S:ByteArray)(b:Nat)(c:b<S.size)(a:(fN S b c).1.ends=true):(fN S b c).1=.bad:=by
 revert a;unfold fN;simp only;repeat' split
 all_goals intro a
 all_goals first|rfl|(simp[Tk.ends]at a)
theorem NA(S:ByteArray)(a:Nat)(c:a<S.size):(fN S a c).2<=S.size+1:=by by_cases b:(fN S a c).1.ends=true;{have d:=fV S dh a (by omega);have e:=fV S dk a (by omega);have f:=fV S fq (a+1) (by omega);revert b;unfold fN;simp only;(repeat' split);(all_goals intro b);all_goals first|(simp[Tk.ends]at b;done)|(simp only;omega)};have:=(rF S a c (by simpa using b)).2;omega
theorem F3{K:Nat->Prop}{w:ω}{p:Nat}{x:fQ}{m:Mode}{ns:List kB}(a:ib K w p x m ns)(N:∀t A,m=.live t A->t.k.ends=false) :
 Calls prog 22 #[π (σ ⟨p,0,ν⟩)] w λF u=>
 F=τ (.tuple #[])/\∃d,ib K u p d m.next ns/\Rest x d/\d.nodes=x.nodes/\aX K w u:=by
 refine(Ny p x w a.pen a.laid a.p0 a.Bp a.pos).mono ?_;rintro F u ⟨rfl,d,L,c,e⟩;refine⟨rfl,d,?_,?_,?_,e.mono a.other⟩
 .have n:d.S=x.S:=by rw[c.same]
  have o:d.e=x.e:=by rw[c.same]
  have G:d.bad=x.bad:=by rw[c.same]
  have v:d.nodes=x.nodes:=by rw[c.same]
  have R:=fl x.S cz x.pos;have B:d.pos<=x.S.size+1/\d.tp<=x.S.size:=(by by_cases b:aS x.S cz x.pos<x.S.size;{obtain⟨f,i,j⟩:=c.tok b;rw[i,j];refine⟨NA x.S _ b,by omega⟩};obtain⟨f,i,j⟩:=c.fin b;rw[i,j];refine⟨?_,ae _⟩;by_cases O:x.pos<=x.S.size;{have:=fV x.S cz x.pos O;omega};rw[nT _ _ _ (by omega)];exact a.pos);refine⟨L,a.laid.keeps e a.p0,a.p0,by rw[n];exact a.Bp,by rw[n];exact B.1,c.k,c.n,by rw[n];exact B.2,?_,?_,by rw[v];exact a.apart,a.k0,a.kp,by rw[v];exact a.kv,λz y=>ai (a.old z y) e.size⟩
  .have C:=a.mode
   cases m with
   |dead D P=>
     obtain⟨f,i,j⟩:=C;exact⟨by rw[o];exact f,by rw[G];exact i,j⟩
   |live t A=>
     obtain⟨f,i,j,I,Q⟩:=C;have g:=I (N t A rfl);by_cases b:aS x.S cz x.pos<x.S.size
     . obtain⟨k,s,E⟩:=c.tok b
       by_cases r:(fN x.S (aS x.S cz x.pos) b).1.ends=true
       . have l:fM x.S x.pos=[⟨.bad,aS x.S cz x.pos⟩]:=by
          rw[fM];simp only[dif_pos b,dif_pos r]
         rw[l]at g;subst g;have M:(fN x.S (aS x.S cz x.pos) b).1=.bad:=Bq x.S _ b r;rw[M]at k;exact⟨by rw[o];exact f,k,s,λa=>by simp[Tk.ends]at a,λ_=>rfl⟩
       . have l:fM x.S x.pos=⟨(fN x.S (aS x.S cz x.pos) b).1,aS x.S cz x.pos⟩::fM x.S (fN x.S (aS x.S cz x.pos) b).2:=by
          rw[fM];simp only[dif_pos b,dif_neg r]
         rw[l]at g;subst g;exact⟨by rw[o];exact f,k,s,λ_=>by rw[n,E],λa=>absurd a r⟩
     . obtain⟨k,s,E⟩:=c.fin b
       have l:fM x.S x.pos=[⟨.stop,x.S.size⟩]:=by
        rw[fM];simp only[dif_neg b]
       rw[l]at g;subst g;exact⟨by rw[o];exact f,k,s,λa=>by simp[Tk.ends]at a,λ_=>rfl⟩
  rw[v];refine a.own.kept (w':=u) (row:=σ p) ⟨e.os,e.tape,e.output,e.size,λz y H=>e.block z ⟨λD=>H (by rw[D]),y⟩⟩ (.inr a.apart)
 {rw[c.same];exact⟨rfl,rfl,rfl,rfl,rfl,rfl,rfl,rfl,rfl,rfl,rfl,rfl⟩};rw[c.same]
theorem Uo(w:ω)(a b:Obj):δ w.heap.size w ((w.alloc a).alloc b).drew/\((w.alloc a).alloc b).drew.heap[w.heap.size]?=σ a/\((w.alloc a).alloc b).drew.heap[w.heap.size+1]?=σ b/\((w.alloc a).alloc b).drew.heap.size=w.heap.size+2:=
 ⟨aH (((ah _ _).alloc (ae _) a).alloc (by simp) b),heap_alloc2_old w a b,heap_alloc2_new w a b,by
  show((w.heap.push a).push b).size=_;simp⟩
section
variable {K:Nat->Prop} {w:ω} {p:Nat} {x:fQ} {m:Mode} {ns:List kB}
theorem air(c:Bn x m)(d:ByteArray):YQ x d=m.is d:=by
 cases m with
 |dead i g=>
   obtain⟨b,_,e⟩:=c;have:¬x.e=0:=by rw[b];exact e
   unfold YQ Mode.is Mode.tk;simp[this]
 |live tk k=>
   obtain⟨b,a,_⟩:=c;obtain⟨f,j⟩:=tk;unfold YQ
   cases f<;>simp only[nr]at a
   case stop=>simp[a,Mode.is,Mode.tk]
   case bad=>simp[a,Mode.is,Mode.tk]
   case word s=>simp[b,a.1,a.2.1,Mode.is,Mode.tk]
   case name s=>simp[a.1,Mode.is,Mode.tk]
   case num n=>simp[a.1,Mode.is,Mode.tk]
   case str s=>simp[a.1,Mode.is,Mode.tk]
   case sign s=>simp[b,a.1,a.2,Mode.is,Mode.tk]
theorem agH(b:ib K w p x m ns)(a:ByteArray):Calls prog 35 #[π (σ (Ad p 0)),θ a] w λc d=>
 c=τ (.bool (m.is a))/\w=d:=by rw[<- air b.mode a];exact aij p x a w b.pen
theorem ib.wrote{b:fQ}{i:Mode}(a:ib K w p x m ns)(o:tr n p b)(c:aX (Other p w) w n)(d:Rest x b)(f:b.nodes=x.nodes)
 (j:b.pos<=x.S.size+1) (u:b.tk<256) (s:cK b.tn) (t:b.tp<=x.S.size) (r:Bn b i):ib K n p b i ns:=
 ⟨o,a.laid.keeps c a.p0,a.p0,by rw[d.S];exact a.Bp,by rw[d.S];exact j,u,s,by rw[d.S];exact t,r,
  by rw[f];exact a.own.kept (w':=n) (row:=σ p) ⟨c.os,c.tape,c.output,c.size,λg e l=>c.block g ⟨λk=>l (by rw[k]),e⟩⟩ (.inr a.apart),
  by rw[f];exact a.apart,a.k0,a.kp,by rw[f];exact a.kv,λg e=>ai (a.old g e) c.size⟩
theorem F4(a:ib K w p x m ns)(b c:Nat)(l:b≠0):Calls prog 24 #[π (σ (Ad p 0)),ι κ b,ι κ c] w λi e=>
 i=τ (.tuple #[])/\∃f,ib K e p f (m.fail b c) ns/\Rest x f/\f.nodes=x.nodes/\aX K w e:=by
 refine(Zs p x w a.pen b c).mono ?_;rintro i e ⟨rfl,rfl⟩;refine⟨rfl,?_⟩
 cases m with
 |dead o n=>
   obtain⟨d,_,j⟩:=a.mode;rw[aE (by rw[d];exact j)];exact⟨x,a,Rest.refl x,rfl,aX.refl _ _⟩
 |live r s=>
   obtain⟨d,_⟩:=a.mode;rw[aF d];have k:tr ((w.setCell (Ad p 6) (ι κ b)).setCell (Ad p 7) (ι κ c)) p { x with e:=b,bad:=c }:=by
    have d:tr (w.setCell (Ad p 6) (ι κ b)) p { x with e:=b }:=a.pen.set 6 _ (by simp[iL]);exact d.set 7 _ (by simp[iL])
   have g:aX (Other p w) w ((w.setCell (Ad p 6) (ι κ b)).setCell (Ad p 7) (ι κ c)):=((aX.refl _ _).own 6 _).own 7 _;exact⟨_,a.wrote k g ⟨rfl,rfl,rfl,rfl,rfl,rfl,rfl,rfl,rfl,rfl,rfl,rfl⟩ rfl a.pos a.tk a.tn a.tp ⟨rfl,rfl,l⟩,⟨rfl,rfl,rfl,rfl,rfl,rfl,rfl,rfl,rfl,rfl,rfl,rfl⟩,rfl,g.mono a.other⟩
theorem ib.also{K':Nat->Prop}(a:ib K w p x m ns)(d:δ w.heap.size w n)(g:∀c,K' c->K c\/(w.heap.size<=c/\c<n.heap.size))(k:K' 0):ib K' n p x m ns:=by
 have j:=a.pen.lt;refine⟨a.pen.jM (d.block p j),a.laid.below d,a.p0,a.Bp,a.pos,a.tk,a.tn,a.tp,a.mode,
  a.own.kept (w':=n) (row:=ν) ⟨d.os,d.tape,d.output,d.size,λc e _=>d.block c e⟩ (by cases x.nodes.ownBlock<;>simp),a.apart,k,?_,?_,?_⟩
 {intro e;rcases g p e with b|b;{exact a.kp b};omega};{intro f i e;rcases g f e with b|b;{exact a.kv f i b};have:=(a.own.lt f i).2;omega};intro c e;rcases g c e with b|b;{exact ai (a.old c b) d.size};exact b.2
theorem ib.less{K':Nat->Prop}(a:ib K w p x m ns)(d:∀c,K' c->K c)(f:K' 0):ib K' w p x m ns:=
 ⟨a.pen,a.laid,a.p0,a.Bp,a.pos,a.tk,a.tn,a.tp,a.mode,a.own,a.apart,f,λb=>a.kp (d p b),λe g b=>a.kv e g (d e b),λc b=>a.old c (d c b)⟩
theorem ib.below(a:ib K w p x m ns)(b:δ w.heap.size w n):ib K n p x m ns:=a.also b (λ_ c=>.inl c) a.k0
theorem ib.ne(b:ib K w p x m ns){r:Nat}(c:K r):r≠p/\x.nodes.ownBlock≠σ r:=
 ⟨λa=>b.kp (a ▸ c),λa=>b.kv r a c⟩
theorem ib.put(a:ib K w p x m ns)(e:l≠p)(f:x.nodes.ownBlock≠σ l)(g:¬K l)(i:Nat)(c:υ):ib K (w.setCell (Ad l i) c) p x m ns:=by
 have k:l≠0:=λb=>g (b ▸ a.k0);refine⟨a.pen.jM (ay _ _ _ _ (Ne.symm e)),?_,a.p0,a.Bp,a.pos,a.tk,a.tn,a.tp,a.mode,
  a.own.kept (grownBy_setCell w (Ad l i) c) (.inr f),a.apart,a.k0,a.kp,a.kv,λo j=>by simpa[World.setCell]using a.old o j⟩
 intro d r n;have b:=bZ (w:=w) (w':=w.setCell (Ad l i) c) (a:=(Ad 0 d)) (ay _ _ _ _ (Ne.symm k));exact b.trans (a.laid d r n)
theorem ib.drewN(a:ib K w p x m ns)(b:Nat):ib K (w.drewN b) p x m ns:=⟨a.pen,a.laid,a.p0,a.Bp,a.pos,a.tk,a.tn,a.tp,a.mode,a.own,a.apart,a.k0,a.kp,a.kv,a.old⟩
theorem ib.drew(a:ib K w p x m ns):ib K w.drew p x m ns:=⟨a.pen,a.laid,a.p0,a.Bp,a.pos,a.tk,a.tn,a.tp,a.mode,a.own,a.apart,a.k0,a.kp,a.kv,a.old⟩
theorem F5{a:Tok}{d:List Tok}(b:(Mode.live a d).is v=true):a.k.ends=false:=by obtain⟨c,e⟩:=a;cases c<;>simp[Mode.is,Mode.tk,Tk.ends]at b ⊢
theorem yw(b:Bn x m)(a:Nat):m.fail a x.tp=m.wrong a:=by
 cases m with
 |dead e d=>rfl
 |live f g=>obtain⟨_,_,c,_⟩:=b;unfold Mode.wrong Mode.place;rw[c]
end
theorem aeg{K:Nat->Prop}{w:ω}{p:Nat}{x:fQ}{m:Mode}{ns:List kB}(j:ib K w p x m ns)(a:ByteArray):Calls prog 40 #[π (σ (Ad p 0)),θ a] w λe r=>
 e=τ (ι κ x.tp)/\∃n,ib K r p n (m.take a) ns/\Rest x n/\n.nodes=x.nodes/\aX K w r:=by have u:w.cell? (Ad p 4)=σ (ι κ x.tp):=j.pen.cell 4;have d:=ak j;clear j;go_in;go_wp2_with fail;refine(agH d.J a).mono ?_;rintro e s ⟨rfl,rfl⟩;cases AU:m.is a;{go_wp2_with fail;refine(F4 d.J 2 x.tp (by decide)).mono ?_;rintro e s ⟨rfl,o,b,k,l,c⟩;have f:=ak b;have g:=ak c;clear b c;go_wp2_with fail;go_ret;refine⟨rfl,o,?_,k,l,g.J⟩;have i:m.take a=m.fail 2 x.tp:=(by unfold Mode.take;rw[AU,yw d.J.mode];rfl);rw[i];exact f.J};go_wp2_with fail;refine(F3 d.J (λa v t=>by subst t;exact F5 AU)).mono ?_;rintro e s ⟨rfl,o,b,k,l,c⟩;have f:=ak b;have g:=ak c;clear b c;go_wp2_with fail;go_ret;refine⟨rfl,o,?_,k,l,g.J⟩;have i:m.take a=m.next:=(by unfold Mode.take;rw[AU];rfl);rw[i];exact f.J
theorem aeh{x:fQ}{m:Mode}(e:Bn x m)(i:x.e=0)(l:x.tk=97):m.name=((x.tt,x.tp),m.next)/\∀a c,m=.live a c->a.k.ends=false:=by
 cases m with
 |dead d k=>obtain⟨f,_,b⟩:=e;exact absurd (f.symm.trans i) b
 |live a c=>
   obtain⟨f,g,b,_⟩:=e;obtain⟨j,n⟩:=a
   cases j<;>simp only[nr]at g
   case stop=>omega
   case bad=>omega
   case word s=>omega
   case num s=>omega
   case str s=>omega
   case sign s=>omega
   case name s=>
    refine⟨?_,λa c d=>by cases d;rfl⟩;simp only at b;simp[Mode.name,Mode.tk,Mode.place,g.2,b]
theorem ZE{x:fQ}{m:Mode}(b:Bn x m)(d:¬(x.e=0/\x.tk=97)):m.name=((ByteArray.empty,0),m.wrong 2):=by
 cases m with
 |dead i g=>rfl
 |live f l=>
   obtain⟨c,a,j,_⟩:=b;obtain⟨e,k⟩:=f
   cases e<;>simp only[nr]at a
   case name s=>exact absurd ⟨c,a.1⟩ d
   all_goals rfl
def ZF(n:ByteArray×Nat):υ:=χ #[θ n.1,ι κ n.2]
theorem aei{K:Nat->Prop}{w:ω}{p:Nat}{x:fQ}{m:Mode}{ns:List kB}(b:ib K w p x m ns):Calls prog 37 #[π (σ (Ad p 0))] w λD F=>
 D=τ (ZF m.name.1)/\∃v,ib K F p v m.name.2 ns/\Rest x v/\v.nodes=x.nodes/\aX K w F:=by
 have R:w.cell? (Ad p 2)=σ (ι .u8 x.tk):=b.pen.cell 2;have T:w.cell? (Ad p 3)=σ (θ x.tt):=b.pen.cell 3;have U:w.cell? (Ad p 4)=σ (ι κ x.tp):=b.pen.cell 4;have V:w.cell? (Ad p 6)=σ (ι κ x.e):=b.pen.cell 6;have X:=b.pen.lt;have c:=ak b;clear b;have k:(x.e=0/\x.tk=97/\((x.e:Int)==0)=true/\((x.tk:Int)==97)=true/\m.name.1=(x.tt,x.tp)/\m.name.2=m.next/\∀E P,m=.live E P->E.k.ends=false)\/(x.e=0/\¬x.tk=97/\((x.e:Int)==0)=true/\((x.tk:Int)==97)=false/\m.name.1=(ByteArray.empty,0)/\m.name.2=m.fail 2 x.tp)\/(¬x.e=0/\((x.e:Int)==0)=false/\m.name.1=(ByteArray.empty,0)/\m.name.2=m.fail 2 x.tp):=by
  have z:¬(x.e=0/\x.tk=97)->m.name.1=(ByteArray.empty,0)/\m.name.2=m.fail 2 x.tp:=λb=>by rw[ZE c.J.mode b,yw c.J.mode];exact⟨rfl,rfl⟩
  by_cases d:x.e=0;{by_cases a:x.tk=97;{obtain⟨j,u⟩:=aeh c.J.mode d a;exact .inl ⟨d,a,by rw[dC];omega,by rw[dC];omega,by rw[j],by rw[j],u⟩};exact .inr (.inl ⟨d,a,by rw[dC];omega,by rw[aL];omega,z (λb=>a b.2)⟩)};exact .inr (.inr ⟨d,by rw[aL];omega,z (λb=>d b.1)⟩)
 rcases k with⟨d,a,y,I,s,r,L⟩|⟨d,a,y,I,s,r⟩|⟨d,y,s,r⟩;all_goals(go_in;go_wp2_with fail;go_region;go_wp2_with fail;generalize hW:World.drew _=W;obtain⟨g,A,B,M⟩:δ w.heap.size w W/\W.heap[w.heap.size]?=σ (Vz ⟨#[]⟩ 0)/\W.heap[w.heap.size+1]?=σ (Vz x.tt x.tp)/\W.heap.size=w.heap.size+2:=(by rw[<- hW];exact Uo w _ _);have C:ib (λe=>K e\/e=w.heap.size\/e=w.heap.size+1) W p x m ns:=c.J.also g (λe a=>by rcases a with a|a|a;exact .inl a;exact .inr (by omega);exact .inr (by omega)) (.inl c.J.k0);(first|refine(F3 C L).mono ?_|refine(F4 C 2 x.tp (by decide)).mono ?_);rintro D f ⟨rfl,Q,j,u,k,n⟩;have l:f.heap[w.heap.size]?=σ _:=(n.block w.heap.size (.inr (.inl rfl))).trans A;have t:f.heap[w.heap.size+1]?=σ _:=(n.block (w.heap.size+1) (.inr (.inr rfl))).trans B;have N:f.cell? (Ad w.heap.size 0)=σ (θ ⟨#[]⟩):=(by simp[World.cell?,l]);have O:f.cell? (Ad w.heap.size 1)=σ (ι κ 0):=(by simp[World.cell?,l]);have Y:f.cell? (Ad (w.heap.size+1) 0)=σ (θ x.tt):=(by simp[World.cell?,t]);have Z:f.cell? (Ad (w.heap.size+1) 1)=σ (ι κ x.tp):=(by simp[World.cell?,t]);have z0:f.frozen? (Ad w.heap.size 0)=false:=(by simp[World.frozen?,l]);have z1:f.frozen? (Ad w.heap.size 1)=false:=(by simp[World.frozen?,l]);have i:=j.ne (r:=w.heap.size) (.inr (.inl rfl));have o:¬K w.heap.size:=λa=>bO _ (c.J.old _ a);have G:=ak (j.less (K':=K) (λe a=>.inl a) c.J.k0);have H:=ak ((aX.tq (K:=K) ⟨g.os,g.tape,g.output,g.size,λe a _=>g.block e a⟩ c.J.old).trans (n.mono (λe a=>.inl a)));clear j n l t g A B M hW;go_wp2_with fail;(try simp only[Exit.inBlock,Exit.then]);refine aB (v:=ZF m.name.1) (by rw[s];simp[results,results37,go_sem,ZF,N,O];try rfl) rfl ?_;refine⟨rfl,Q,?_,u,k,?_⟩;{rw[r];exact(G.J.put i.1 (by rw[k]at i ⊢;exact i.2) o 0 _).put i.1 (by rw[k]at i ⊢;exact i.2) o 1 _};exact(H.J.setCell (p:=(Ad w.heap.size 0)) o _).setCell (p:=(Ad w.heap.size 1)) o _)
theorem wM(a:Nat)(w:ω):Calls prog 76 #[ι .u8 a] w λd e=>d=τ (.bool (iI a))/\w=e:=by unfold iI;by_cases f:(97:Int)<=a;{by_cases g:(a:Int)<=122;{go_in;go_wp2;go_ret;have b:97<=a:=(by omega);have c:a<=122:=(by omega);simp[b,c]};go_in;go_wp2;go_ret;have b:97<=a:=(by omega);have c:¬a<=122:=(by omega);simp[b,c]};go_in;go_wp2;go_ret;have b:¬97<=a:=(by omega);simp[b]
theorem yA(a:Nat)(w:ω):Calls prog 78 #[ι .u8 a] w λd e=>d=τ (.bool (kE a))/\w=e:=by unfold kE;by_cases f:(48:Int)<=a;{by_cases g:(a:Int)<=57;{go_in;go_wp2;go_ret;have b:48<=a:=(by omega);have c:a<=57:=(by omega);simp[b,c]};go_in;go_wp2;go_ret;have b:48<=a:=(by omega);have c:¬a<=57:=(by omega);simp[b,c]};go_in;go_wp2;go_ret;have b:¬48<=a:=(by omega);simp[b]
theorem Fv(a:ByteArray)(w:ω)(j:a.size<=300):Calls prog 106 #[θ a,.func (.func 76) #[] #[]] w λg f=>g=τ (ι κ (aS a dh 0))/\w=f:=by
 go_in;go_wp2_with fail;go_loopw[8] (λd wr=>∃b:Nat,b<=a.size/\d=ι κ b/\wr=w/\Hid (aS a dh 0=aS a dh b)) (λd _=>a.size - (intOf d).toNat);case atStart=>exact⟨0,aK _,rfl,rfl,ak rfl⟩
 case round=>obtain⟨b,k,rfl,rfl,c⟩:=hrel;by_cases e:b<a.size;{have l:(b:Int)<(a.size:Int):=(by omega);cases hb:iI a[b].toNat;{go_wp2_with(go_at_call 76;refine(wM _ _).mono ?_;rintro i f ⟨rfl,rfl⟩);go_ret;refine⟨?_,rfl⟩;rw[c.J,mU a dh b e hb];rfl};go_wp2_with(go_at_call 76;refine(wM _ _).mono ?_;rintro i f ⟨rfl,rfl⟩);go_roundw;(case rel=>exact⟨b+1,by omega,by go_num,by first|rfl|trivial,ak (c.J.trans (iJ a dh b e hb))⟩);case measure=>simp[intOf];omega};go_wp2_with fail;go_ret;refine⟨?_,rfl⟩;rw[c.J,nT a dh b e];have:a.size=b:=(by omega);rw[this];rfl
theorem GB(a:ByteArray)(w:ω)(j:a.size<=300):Calls prog 106 #[θ a,.func (.func 78) #[] #[]] w λg f=>g=τ (ι κ (aS a dk 0))/\w=f:=by
 go_in;go_wp2_with fail;go_loopw[8] (λd wr=>∃b:Nat,b<=a.size/\d=ι κ b/\wr=w/\Hid (aS a dk 0=aS a dk b)) (λd _=>a.size - (intOf d).toNat);case atStart=>exact⟨0,aK _,rfl,rfl,ak rfl⟩
 case round=>obtain⟨b,k,rfl,rfl,c⟩:=hrel;by_cases e:b<a.size;{have l:(b:Int)<(a.size:Int):=(by omega);cases hb:kE a[b].toNat;{go_wp2_with(go_at_call 78;refine(yA _ _).mono ?_;rintro i f ⟨rfl,rfl⟩);go_ret;refine⟨?_,rfl⟩;rw[c.J,mU a dk b e hb];rfl};go_wp2_with(go_at_call 78;refine(yA _ _).mono ?_;rintro i f ⟨rfl,rfl⟩);go_roundw;(case rel=>exact⟨b+1,by omega,by go_num,by first|rfl|trivial,ak (c.J.trans (iJ a dk b e hb))⟩);case measure=>simp[intOf];omega};go_wp2_with fail;go_ret;refine⟨?_,rfl⟩;rw[c.J,nT a dk b e];have:a.size=b:=(by omega);rw[this];rfl
