import Derived.Test.YtcoaphfimellcaaGreatDoorFAA
set_option maxHeartbeats 0
set_option maxRecDepth 100000
namespace Go.Proofs.YtcoaphfimellcaaGreatDoor
variable{w x v:ByteArray}{p n:Nat}
def xu:Mode->Mode->Prop
 |.live t ts,.live t' ts'=>t.k=t'.k/\ts.map Tok.k=ts'.map Tok.k
 |.dead e _,.dead e' _=>e=e'
 |_,_=>False
def Ex.st:Ex->Ex
 |.col s _=>.col s 0
 |.neg _ x=>.neg 0 x.st
 |.not _ x=>.not 0 x.st
 |.j8 no _ x=>.j8 no 0 x.st
 |.two op _ x y=>.two op 0 x.st y.st
 |e=>e
section
variable {m m':Mode}
theorem xu.tk(a:xu m m'):m.tk=m'.tk:=by cases m<;>cases m'<;>first|exact a.1|rfl|exact a.elim
theorem xu.is(b:xu m m')(a:ByteArray):m.is a=m'.is a:=by unfold Mode.is;rw[b.tk]
theorem xu.len(a:xu m m'):m.len=m'.len:=by cases m<;>cases m'<;>first|exact a.elim|rfl|(have:=a7 List.length a.2;simpa[Mode.len]using this)
theorem xu.next(a:xu m m'):xu m.next m'.next:=by cases m with|dead g f=>(cases m'<;>first|exact a|exact a.elim)|live i d=>cases m' with|dead=>exact a.elim|live j e=>obtain⟨c,b⟩:=a;cases d<;>cases e<;>simp at b;{exact⟨c,rfl⟩};exact⟨b.1,b.2⟩
theorem xu.wrong(b:xu m m')(a:Nat):xu (m.wrong a) (m'.wrong a):=by cases m<;>cases m'<;>first|exact b.elim|exact b|rfl
theorem xu.take(a:xu m m')(b:ByteArray):xu (m.take b) (m'.take b):=by unfold Mode.take;rw[a.is];split;{exact a.next};exact a.wrong 2
end
def Sim(f:Mode->Ex×Mode):Prop:=∀m m',xu m m'->(f m).1.st=(f m').1.st/\xu (f m).2 (f m').2
def Wq(sub:Option rN):Prop:=∀v,sub=some v->Sim v.expr/\Sim v.Dl/\Sim v.turn
theorem Nk{c:Mode->Ex×Mode}(f:Sim c)(b:List ByteArray):∀a d e m m',d.st=e.st->xu m m'->(fL c b a d m).1.st=(fL c b a e m').1.st/\xu (fL c b a d m).2 (fL c b a e m').2
 |0,_,_,_,_,hx,h=>⟨hx,h⟩
 |a+1,d,e,m,m',hx,h=>by
   simp only[fL,h.is]
   cases b.find? (λi=>m'.is i)with
   |none=>exact⟨hx,h⟩
   |some i=>
     have g:=f _ _ h.next;exact Nk f b a _ _ _ _ (by simp only[Ex.st,hx,g.1]) g.2
theorem Bq{c:Mode->Ex×Mode}(b:Sim c)(d:List ByteArray):Sim (ll c d):=λm m' e=>by
 have a:=b _ _ e;unfold ll;rw[a.2.len];exact Nk b d _ _ _ _ _ a.1 a.2
section
variable {sub:Option rN}
theorem aft(c:Wq sub):Sim (ja sub):=λm m' a=>by
 unfold ja;rw[a.is,a.tk];split
 . cases sub with
   |none=>exact⟨rfl,a.wrong 3⟩
   |some d=>
     have b:=(c d rfl).1 _ _ a.next;exact⟨b.1,b.2.take _⟩
 . cases m'.tk with
   |word e=>simp only;split;exact⟨rfl,a.next⟩;split;exact⟨rfl,a.next⟩;exact⟨rfl,a.wrong 2⟩
   |_=>first|exact⟨rfl,a.next⟩|exact⟨rfl,a.wrong 2⟩
theorem SP(b:Wq sub):Sim (gL sub):=λm m' a=>by
 unfold gL;rw[a.is];split
 . cases sub with
   |none=>exact⟨rfl,a.wrong 3⟩
   |some d=>
     have c:=(b d rfl).2.2 _ _ a.next;exact⟨by simp only[Ex.st,c.1],c.2⟩
 . exact aft b m m' a
theorem Nl(a:Wq sub):Sim (gb sub):=Bq (Bq (SP a) _) _
theorem afu(b:Wq sub):Sim (kP sub):=λm m' e=>by
 have a:=Nl b _ _ e;have c:=Nl b _ _ a.2.next;simp only[kP,a.2.is]
 cases iW.find? (λd=>(gb sub m').2.is d)with
 |some d=>exact⟨by simp only[Ex.st,a.1,c.1],c.2⟩
 |none=>
   simp only;split
   . rw[a.2.next.is]
     refine⟨by simp only[Ex.st,a.1],?_⟩;split
     . exact a.2.next.next.take _
     . exact a.2.next.take _
   . exact a
theorem SQ(b:Wq sub):Sim (gj sub):=λm m' a=>by
 unfold gj;rw[a.is];split
 . cases sub with
   |none=>exact⟨rfl,a.wrong 3⟩
   |some d=>
     have c:=(b d rfl).2.1 _ _ a.next;exact⟨by simp only[Ex.st,c.1],c.2⟩
 . exact afu b m m' a
theorem SR(a:Wq sub):Sim (fE sub):=Bq (Bq (SQ a) _) _
end
theorem Ig:∀a,Wq (lvl a)
 |0=>λc b=>by cases b
 |a+1=>λc b=>by cases b;exact⟨SR (Ig a),SQ (Ig a),SP (Ig a)⟩
def Up(f g:Mode->Ex×Mode):Prop:=∀m,(f m).2.ok=true->g m=f m
def UpL(a b:Option rN):Prop:=∀v,a=some v->∃u,b=some u/\Up v.expr u.expr/\Up v.Dl u.Dl/\Up v.turn u.turn
theorem SS{d e:Mode->Ex×Mode}(f:Up d e)(b:List ByteArray):∀a c m,(fL d b a c m).2.ok=true->fL e b a c m=fL d b a c m
 |0,_,_,_=>rfl
 |a+1,c,m,ha=>by
   simp only[fL]at ha ⊢
   cases hf:b.find? (λg=>m.is g)with
   |none=>rfl
   |some g=>
     rw[hf]at ha;simp only at ha ⊢;rw[f _ (lJ ha)];exact SS f b a _ _ ha
theorem Et{c d:Mode->Ex×Mode}(e:Up c d)(b:List ByteArray):Up (ll c b) (ll d b):=λm a=>by
 unfold ll at a ⊢;rw[e _ (lJ a)];exact SS e b _ _ _ a
theorem Yg{k:ByteArray}{d f:Option rN}{c:rN->Mode->Ex×Mode}{i j:Mode->Ex×Mode}(g:Nat->Ex->Ex) :
 (∀a,d=some a->∃e,f=some e/\Up (c a) (c e))->Up i j->Up (λm=>if m.is k then(match d with
   |none=>(.junk,m.wrong 3)
   |some a=>(g m.place (c a m.next).1,(c a m.next).2))else i m) (λm=>if m.is k then(match f with
   |none=>(.junk,m.wrong 3)
   |some a=>(g m.place (c a m.next).1,(c a m.next).2))else j m):=λo n m b=>by
 simp only at b ⊢
 cases hi:m.is k with
 |false=>rw[hi]at b;exact n m b
 |true=>
   rw[hi]at b
   cases d with
   |none=>simp[sY]at b
   |some a=>
     obtain⟨e,rfl,l⟩:=o a rfl;simp only[if_true]at b ⊢;rw[l _ b]
theorem aiX{b c:Option rN}(e:UpL b c):Up (ja b) (ja c):=λm a=>by
 unfold ja at a ⊢
 cases hi:m.is cq with
 |false=>rfl
 |true=>
   rw[hi]at a
   cases b with
   |none=>simp[sY]at a
   |some f=>
     obtain⟨g,rfl,d,-,-⟩:=e f rfl;simp only[if_true]at a ⊢;rw[d _ (Ck (ug a))]
theorem Yh{a b:Option rN}(c:UpL a b):Up (gL a) (gL b):=
 Yg (k:=oG) Ex.neg (λe d=>let⟨u,h1,_,_,h2⟩:=c e d;⟨u,h1,h2⟩) (aiX c)
theorem SU{a b:Option rN}(c:UpL a b):Up (gb a) (gb b):=Et (Et (Yh c) _) _
theorem aiY{b c:Option rN}(d:UpL b c):Up (kP b) (kP c):=λm a=>by
 have f:=SU d _ (Pg a);unfold kP at a ⊢;simp only[f]at a ⊢
 cases hf:iW.find? (λe=>(gb b m).2.is e)with
 |none=>rfl
 |some e=>
   rw[hf]at a;simp only at a ⊢;rw[SU d _ a]
theorem Yi{a b:Option rN}(c:UpL a b):Up (gj a) (gj b):=
 Yg (k:=y9) Ex.not (λe d=>let⟨u,h1,_,h2,_⟩:=c e d;⟨u,h1,h2⟩) (aiY c)
theorem Yj{a b:Option rN}(c:UpL a b):Up (fE a) (fE b):=Et (Et (Yi c) _) _
theorem Pm:∀a,UpL (lvl a) (lvl (a+1))
 |0=>λc b=>by cases b
 |a+1=>λc b=>by cases b;exact⟨_,rfl,Yj (Pm a),Yi (Pm a),Yh (Pm a)⟩
theorem Gr{g:Mode->Ex×Mode}{c:List ByteArray}{d:Ex}{m:Mode}(f:∀a∈c,m.is a=false):∀b,fL g c b d m=(d,m)
 |0=>rfl
 |b+1=>by
   simp only[fL];rw[gW.mpr (λa e=>by simp[f a e])]
theorem tf{a:Mode->Ex×Mode}{ops:List ByteArray}{m m':Mode}{b:Ex}(c:a m=(b,m'))(d:∀e∈ops,m'.is e=false):ll a ops m=(b,m'):=by unfold ll;rw[c];exact Gr d _
def AL:List ByteArray:=pQ++oH++iW++[kIs]
theorem KB{a b:List Tok}{i:Ex}(w:a≠[])(v:b≠[])(u:fE (lvl 8) (Mode.of a)=(i,Mode.of (⟨.sign cY,n⟩::b)))(f:∀c∈AL,(Mode.of b).is c=false)(k:(gj (lvl 8) (Mode.of (⟨.sign cq,p⟩::a))).2.ok=true) :
 gj (lvl 8) (Mode.of (⟨.sign cq,p⟩::a))=(i,Mode.of b):=by
 have o:∀(r:Tok) {d:List Tok},d≠[]->(Mode.of (r::d)).next=Mode.of d:=λr d s=>by
  cases d with
  |nil=>exact absurd rfl s
  |cons=>rfl
 have y:gj (lvl 8) (Mode.of (⟨.sign cq,p⟩::a))=kP (lvl 8) (Mode.of (⟨.sign cq,p⟩::a)):=rfl;have g:gL (lvl 8) (Mode.of (⟨.sign cq,p⟩::a))=((fE (lvl 7) (Mode.of a)).1,(fE (lvl 7) (Mode.of a)).2.take cY):=(by rw[show gL (lvl 8) (Mode.of (⟨.sign cq,p⟩::a))=((fE (lvl 7) (Mode.of (⟨.sign cq,p⟩::a)).next).1,(fE (lvl 7) (Mode.of (⟨.sign cq,p⟩::a)).next).2.take cY)from rfl,o _ w]);rw[y]at k ⊢;have j:=lJ (lJ (Pg k));rw[g]at j;have t:=Yj (Pm 7) _ (Ck (ug j));rw[<- t,u]at g;have x:(Mode.of (⟨.sign cY,n⟩::b)).take cY=Mode.of b:=(by rw[show(Mode.of (⟨.sign cY,n⟩::b)).take cY=(Mode.of (⟨.sign cY,n⟩::b)).next from rfl,o _ v]);simp only[x]at g;have l:=tf (tf g (ops:=pQ) (λc e=>f c (by simp[AL,e]))) (ops:=oH) (λc e=>f c (by simp[AL,e]));rw[show ll (ll (gL (lvl 8)) pQ) oH=gb (lvl 8)from rfl]at l;unfold kP;rw[l];simp only;rw[gW.mpr (λc e=>by simp[f c (by simp[AL,e])]),f kIs (by simp[AL])];rfl
theorem KC:∀b a m,a.length<=(cO b a m).1.length
 |0,_,_=>ae _
 |b+1,a,m=>by
   unfold cO;split
   . have:=KC b (a++[(cH m.next).1]) (cH m.next).2
     simp only[List.length_append,List.length_cons,List.length_nil]at this;omega
   . exact ae _
def pE:ByteArray:=bs [102,114,111,109,32,116,32,124,32,119,104,101,114,101]
def isE(S:ByteArray):Prop:=∃a b,fg (pE++(bs [32]++S))=.inl (.query [a,b])
theorem Yk:dv pE 0=[⟨.word fB,0⟩,⟨.name (bs [116]),5⟩,⟨.sign me,7⟩,⟨.word dR,9⟩]++[⟨.stop,pE.size⟩]:=by kernel_rfl
theorem Nn{S:ByteArray}(c:isE S):∃a i,dv S 0=a++[⟨.stop,S.size⟩]/\a≠[]/\∀e,∃k:Ex,k.st=i/\∀l j,fE (lvl 8) (Mode.of (a.map (Tok.up e)++⟨.sign cY,l⟩::j))=(k,Mode.of (⟨.sign cY,l⟩::j)):=by
 obtain⟨F,G,c⟩:=c;obtain⟨a,b,k,Q,o⟩:=Ky S (S.size - 0) 0 (ae _);have O:0<(bs [32]++S).size:=by rw[bH];show 0<1+S.size;omega
 have M:dv (pE++(bs [32]++S)) 0=[⟨.word fB,0⟩,⟨.name (bs [116]),5⟩,⟨.sign me,7⟩,⟨.word dR,9⟩]++(a.map (Tok.up 15)++[Tok.up 15 b]):=by
  rw[Wm pE _ O (by rw[xq (show 0<(bs [32]).size by decide)];rfl) 0 (aI _) _ Yk];have:=Kx pE (bs [32]++S) 0;rw[iZ]at this;rw[this,Gq,k];simp only[List.map_append,List.map_map,List.map_cons,List.map_nil];have B:Tok.up pE.size ∘ Tok.up 1=Tok.up 15:=funext λf=>by
   show(⟨f.k,14+(1+f.pl)⟩:Tok)=⟨f.k,15+f.pl⟩;congr 1;omega
  rw[B];rw[show Tok.up pE.size (Tok.up 1 b)=Tok.up 15 b from congrFun B b]
 have A:∀e,(Tok.up e b).k.ends=true:=λe=>by rcases o with rfl|c;rfl;show b.k.ends=true;rw[c];rfl
 unfold fg at c;split at c;{cases c};rw[M]at c;simp only at c;have N:∃n d,a.map (Tok.up 15)++[Tok.up 15 b]=n::d:=by cases a<;>exact⟨_,_,rfl⟩
 obtain⟨n,d,C⟩:=N;obtain⟨f,E,g,t,s⟩:∃f E,(bO (Mode.of ([⟨.word fB,0⟩,⟨.name (bs [116]),5⟩,⟨.sign me,7⟩,⟨.word dR,9⟩]++(a.map (Tok.up 15)++[Tok.up 15 b])))).2=.live f E/\f.k=.stop/\(bO (Mode.of ([⟨.word fB,0⟩,⟨.name (bs [116]),5⟩,⟨.sign me,7⟩,⟨.word dR,9⟩]++(a.map (Tok.up 15)++[Tok.up 15 b])))).1=.query [F,G]:=(by split at c;{cases c};{exact⟨_,_,‹_›,rfl,jt c⟩};cases c);have L:bO (Mode.of ([⟨.word fB,0⟩,⟨.name (bs [116]),5⟩,⟨.sign me,7⟩,⟨.word dR,9⟩]++(n::d)))=(.query (cO (d.length+2) [{ bare fB 0 with table:=(bs [116],5) },{ bare dR 9 with exprs:=[(mO (Mode.of (n::d))).1] }] (fE (lvl 8) (Mode.of (n::d))).2).1,(cO (d.length+2) [{ bare fB 0 with table:=(bs [116],5) },{ bare dR 9 with exprs:=[(mO (Mode.of (n::d))).1] }] (fE (lvl 8) (Mode.of (n::d))).2).2):=rfl;rw[C,L]at g s;rw[<- C,show Mode.of (a.map (Tok.up 15)++[Tok.up 15 b])=at_ (a.map (Tok.up 15)) (Tok.up 15 b)from rfl]at g s;have R:(fE (lvl 8) (at_ (a.map (Tok.up 15)) (Tok.up 15 b))).2.is me=false:=(by refine eJ.2 λP=>?_;have x:=a7 List.length (Bt.query.inj s);rw[show∀i m,cO (d.length+2) i m=if m.is me=true then cO (d.length+1) (i++[(cH m.next).1]) (cH m.next).2 else(i,m) fromλ_ _=>rfl,aF P]at x;have y:=KC (d.length+1) ([{ bare fB 0 with table:=(bs [116],5) },{ bare dR 9 with exprs:=[(mO (at_ (a.map (Tok.up 15)) (Tok.up 15 b))).1] }]++[(cH (fE (lvl 8) (at_ (a.map (Tok.up 15)) (Tok.up 15 b))).2.next).1]) (cH (fE (lvl 8) (at_ (a.map (Tok.up 15)) (Tok.up 15 b))).2.next).2;rw[x]at y;simp at y);rw[show∀i m,cO (d.length+2) i m=if m.is me=true then cO (d.length+1) (i++[(cH m.next).1]) (cH m.next).2 else(i,m) fromλ_ _=>rfl,R]at g;simp only[Bool.false_eq_true,if_false]at g;have z:=λl j=>FB (afq l j) (λ_ c=>c) (AJ (afq l j) (λ_ c=>c) 8);obtain⟨X,Z,K,r,w,-⟩:=z 0 [] _ _ (A 15) (by rw[g];rfl);rw[w]at g;obtain⟨rfl,D⟩:=afp (l:=a.map (Tok.up 15)) (λf t=>by obtain⟨t',h',rfl⟩:=cI.1 t;exact Q t' h') r g t;have o:b=⟨.stop,S.size⟩:=(by rcases o with c|c;{exact c};rw[show(Tok.up 15 b).k=b.k from rfl,c]at D;cases D);have v:a≠[]:=λk=>by
  rw[k,bX]at r;exact K r.symm
 refine⟨a,(fE (lvl 8) (at_ (a.map (Tok.up 15)) (Tok.up 15 b))).1.st,by rw[k,o],v,λe=>?_⟩;have T:xu (at_ (a.map (Tok.up e)) (Tok.up e b)) (at_ (a.map (Tok.up 15)) (Tok.up 15 b)):=(by cases a with|nil=>exact absurd rfl v|cons f a=>exact⟨rfl,by simp[Tok.up]⟩);obtain⟨W,p⟩:=SR (Ig 8) _ _ T;rw[w]at p;have V:(fE (lvl 8) (at_ (a.map (Tok.up e)) (Tok.up e b))).2.ok=true:=(by cases g:(fE (lvl 8) (at_ (a.map (Tok.up e)) (Tok.up e b))).2 with|live=>rfl|dead=>rw[g]at p;exact p.elim);refine⟨_,W,λl j=>?_⟩;obtain⟨Y,U,-,-,H,I⟩:=z l j _ _ (A e) V;have u:=p.len;rw[H,at_len,at_len]at u;obtain rfl:U=[]:=dC (by simpa using u);exact I
def vj:List ByteArray:=AL++tN++vB
def AO:ByteArray:=bs [97,110,100]
theorem Yl{m:Mode}(a:(fE (lvl 8) m).2.ok=true):(gj (lvl 8) m).2.ok=true:=lJ (lJ a)
theorem SW{d c:List Tok}{f:Ex}(j:d≠[])(i:c≠[])(g:fE (lvl 8) (Mode.of d)=(f,Mode.of (⟨.sign cY,n⟩::c)))(e:∀a∈vj,(Mode.of c).is a=false)(k:(fE (lvl 8) (Mode.of (⟨.sign cq,p⟩::d))).2.ok=true) :
 fE (lvl 8) (Mode.of (⟨.sign cq,p⟩::d))=(f,Mode.of c):=
 tf (tf (KB j i g (λa b=>e a (by simp only[vj,List.mem_append];exact .inl (.inl b))) (Yl k)) (λa b=>e a (by simp only[vj,List.mem_append];exact .inl (.inr b)))) (λa b=>e a (by simp only[vj,List.mem_append];exact .inr b))
theorem aiZ(b:Nat)(c:List Tok):∀a∈AL,(Mode.of (⟨.word AO,b⟩::c)).is a=false:=by show∀a∈AL,jN AO a=false;decide
theorem ai0(b:Nat)(c:List Tok):∀a∈vj,(Mode.of (⟨.sign me,b⟩::c)).is a=false:=by show∀a∈vj,jN me a=false;decide
theorem SX(b:Nat):∀a∈vj,(Mode.of [⟨.stop,b⟩]).is a=false:=λ_ _=>rfl
theorem afv{k f z:Nat}{c a e:List Tok}{g l:Ex}(x:c≠[])(y:a≠[])(w:e≠[])(u:fE (lvl 8) (Mode.of c)=(g,Mode.of (⟨.sign cY,n⟩::⟨.word AO,k⟩::⟨.sign cq,f⟩::a)))(v:fE (lvl 8) (Mode.of a)=(l,Mode.of (⟨.sign cY,z⟩::e)))(j:∀b∈vj,(Mode.of e).is b=false)(o:(fE (lvl 8) (Mode.of (⟨.sign cq,p⟩::c))).2.ok=true) :
 fE (lvl 8) (Mode.of (⟨.sign cq,p⟩::c))=(.two AO k g l,Mode.of e):=by have r:=KB x (by simp) u (aiZ _ _) (Yl o);have i:yP (lvl 8) (Mode.of (⟨.sign cq,p⟩::c))=fL (gj (lvl 8)) tN (a.length+1) (.two AO k g (gj (lvl 8) (Mode.of (⟨.sign cq,f⟩::a))).1) (gj (lvl 8) (Mode.of (⟨.sign cq,f⟩::a))).2:=(by unfold yP ll;rw[r];rfl);have s:(gj (lvl 8) (Mode.of (⟨.sign cq,f⟩::a))).2.ok=true:=(by have:=lJ o;rw[i]at this;exact lJ this);have t:=KB y w v (λb d=>j b (by simp only[vj,List.mem_append];exact .inl (.inl d))) s;rw[t,Gr (λb d=>j b (by simp only[vj,List.mem_append];exact .inl (.inr d)))]at i;exact tf i (λb d=>j b (by simp only[vj,List.mem_append];exact .inr d))
theorem ast(a b:Nat)(d:List Tok):(d.map (Tok.up b)).map (Tok.up a)=d.map (Tok.up (a+b)):=by rw[gI];congr 1;exact funext λc=>by show(⟨c.k,a+(b+c.pl)⟩:Tok)=⟨c.k,a+b+c.pl⟩;congr 1;omega
theorem Np(a:ByteArray):dv (bs [40]++a) 0=⟨.sign cq,0⟩::(dv a 0).map (Tok.up 1):=by
 have b:0<(bs [40]++a).size:=by rw[bH];show 0<1+a.size;omega
 have c:(bs [40]++a)[0]=40:=xq (A:=bs [40]) (show 0<(bs [40]).size by decide) b;have f:(bs [40]++a).extract 0 (0+1)=cq:=xr (bs [40]) a 0 1 (by decide);have e:ez (bs [40]++a) 0 b=(.sign cq,1):=(by unfold ez dZ;simp only[c];simp[da,iV,cX,jP,f]);have d:=Kx (bs [40]) a 0;rw[show(bs [40]).size+0=1 from rfl,show(bs [40]).size=1 from rfl]at d;rw[dv.eq_def,eY _ bS 0 b (by rw[c];rfl)];simp only[b,dif_pos,e];rw[gy (by simp[Tk.ends]),d]
def c1:ByteArray:=bs [32,124,32,119,104,101,114,101,32]
def c2:ByteArray:=bs [41,32,124,32,119,104,101,114,101,32]
def c3:ByteArray:=bs [41,32,97,110,100,32]
theorem ai1:dv c1 0=[⟨.sign me,1⟩,⟨.word dR,3⟩]++[⟨.stop,c1.size⟩]:=by kernel_rfl
theorem ai2:dv c2 0=[⟨.sign cY,0⟩,⟨.sign me,2⟩,⟨.word dR,4⟩]++[⟨.stop,c2.size⟩]:=by kernel_rfl
theorem ai3:dv c3 0=[⟨.sign cY,0⟩,⟨.word AO,2⟩]++[⟨.stop,c3.size⟩]:=by kernel_rfl
theorem ai4:dv (bs [41]) 0=[⟨.sign cY,0⟩,⟨.stop,1⟩]:=by kernel_rfl
theorem SY{q one two:ByteArray}{e b c d:List Tok}(v:dv q 0=e++[⟨.stop,q.size⟩])(r:dv one 0=b++[⟨.stop,one.size⟩])(s:dv two 0=c++[⟨.stop,two.size⟩])(u:dv w 0=d++[⟨.stop,w.size⟩])(a:0<w.size)(t:Dc w[0]=true) :
 ∃f g x y z,dv (q++(c1++(bs [40]++(one++(w++(bs [40]++(two++bs [41]))))))) 0=e++(⟨.sign me,q.size+1⟩::⟨.word dR,q.size+3⟩::⟨.sign cq,q.size+9⟩::(b.map (Tok.up (q.size+10))++(d.map (Tok.up f)++⟨.sign cq,x⟩::(c.map (Tok.up g)++[⟨.sign cY,y⟩,⟨.stop,z⟩])))):=by have o:=td (X:=two) (Y:=bs [41]) (by decide) (by decide) s;have n:=Np (two++bs [41]);have l:=td (X:=w) (Y:=bs [40]++(two++bs [41])) (Dd (by decide)) (by rw[yK (X:=bs [40]) (by decide)];decide) u;have k:=td (X:=one) (Y:=w++(bs [40]++(two++bs [41]))) (Dd a) (by rw[yK a];exact t) r;have j:=Np (one++(w++(bs [40]++(two++bs [41]))));have i:=td (X:=c1) (Y:=bs [40]++(one++(w++(bs [40]++(two++bs [41]))))) (Dd (by decide)) (by rw[yK (X:=bs [40]) (by decide)];decide) ai1;have p:=td (X:=q) (Y:=c1++(bs [40]++(one++(w++(bs [40]++(two++bs [41])))))) (Dd (by decide)) (by rw[yK (X:=c1) (by decide)];decide) v;rw[p,i,j,k,l,n,o,ai4];simp only[List.map_append,List.map_cons,List.map_nil,ast];simp only[List.cons_append,List.nil_append];exact⟨_,_,_,_,_,rfl⟩
def tA(q one two:ByteArray):ByteArray:=q++(c1++(bs [40]++(one++(c2++(bs [40]++(two++bs [41]))))))
def tB(q one two:ByteArray):ByteArray:=q++(c1++(bs [40]++(one++(c3++(bs [40]++(two++bs [41]))))))
def whS(pl:Nat)(e:Ex)(f:Nat):eZ:={ bare dR pl with exprs:=[(e,f)] }
theorem FC{S:ByteArray}{b:Bt}(a:fg S=.inl b):(bO (Mode.of (dv S 0))).2.ok=true/\(bO (Mode.of (dv S 0))).1=b:=by unfold fg at a;split at a;{cases a};simp only at a;split at a;{cases a};{rename_i c;exact⟨by rw[c];rfl,jt a⟩};cases a
theorem afw{m:Mode}(a:m.is dR=true):cH m=(whS m.place (fE (lvl 8) m.next).1 m.next.place,(fE (lvl 8) m.next).2):=by unfold cH mO;rw[aF a];rfl
theorem De(d:Nat)(e:List eZ)(f c a:Nat)(b:List Tok):cO (d+1) e (Mode.of (⟨.sign me,f⟩::⟨.word dR,c⟩::⟨.sign cq,a⟩::b))=cO d (e++[whS c (fE (lvl 8) (Mode.of (⟨.sign cq,a⟩::b))).1 a]) (fE (lvl 8) (Mode.of (⟨.sign cq,a⟩::b))).2:=by show cO d (e++[(cH (Mode.of (⟨.word dR,c⟩::⟨.sign cq,a⟩::b))).1]) (cH (Mode.of (⟨.word dR,c⟩::⟨.sign cq,a⟩::b))).2=_;rw[afw (m:=Mode.of (⟨.word dR,c⟩::⟨.sign cq,a⟩::b)) rfl];rfl
theorem Nq(c:Nat)(b:List eZ)(a:Nat):cO (c+1) b (Mode.of [⟨.stop,a⟩])=(b,Mode.of [⟨.stop,a⟩]):=rfl
theorem afx{q one two:ByteArray}{F:List eZ}(X:fg q=.inl (.query F))(U:isE one)(V:isE two):∃(p r s:Ex) (M p2 pa L T:Nat),r.st=s.st/\
 (∀b,fg (tA q one two)=.inl b->b=.query (F++[whS M p L,whS p2 r T]))/\(∀b,fg (tB q one two)=.inl b->b=.query (F++[whS M (.two AO pa p s) L]))/\yY (Mode.of (dv (tA q one two) 0))/\yY (Mode.of (dv (tB q one two) 0)):=by
 obtain⟨v,P,u⟩:=Kz X;obtain⟨j,x1,N,n1,Q⟩:=Nn U;obtain⟨k,x2,O,n2,G⟩:=Nn V;obtain⟨a,n,w,B,D,I⟩:=SY P N O ai2 (by decide) (by decide);obtain⟨e,o,A,C,E,K⟩:=SY P N O ai3 (by decide) (by decide);obtain⟨p,-,H⟩:=Q (q.size+10);obtain⟨r,ab,R⟩:=G n;obtain⟨s,ac,W⟩:=G o;have t:∀(Z:List Tok) (ad:Tok) (aa:List Tok),Z++ad::aa≠[]:=by simp
 refine⟨p,r,s,q.size+3,a+4,e+2,q.size+9,w,ab.trans ac.symm,λb x=>?_,λb x=>?_,by unfold tA;rw[I];exact(u _ _).choose_spec.2.2,by unfold tB;rw[K];exact(u _ _).choose_spec.2.2⟩;{obtain⟨g,f⟩:=FC x;unfold tA at g f;rw[I]at g f;obtain⟨i,y,l,-⟩:=u (q.size+1) (⟨.word dR,q.size+3⟩::⟨.sign cq,q.size+9⟩::(j.map (Tok.up (q.size+10))++⟨.sign cY,a+0⟩::⟨.sign me,a+2⟩::⟨.word dR,a+4⟩::⟨.sign cq,w⟩::(k.map (Tok.up n)++[⟨.sign cY,B⟩,⟨.stop,D⟩])));obtain⟨i,rfl⟩:∃m,i=m+3:=⟨i - 3,by simp only[List.length_cons,List.length_append]at y;omega⟩;rw[De]at l;have d:(bO (Mode.of (v++⟨.sign me,q.size+1⟩::⟨.word dR,q.size+3⟩::⟨.sign cq,q.size+9⟩::(j.map (Tok.up (q.size+10))++⟨.sign cY,a+0⟩::⟨.sign me,a+2⟩::⟨.word dR,a+4⟩::⟨.sign cq,w⟩::(k.map (Tok.up n)++[⟨.sign cY,B⟩,⟨.stop,D⟩]))))).2.ok=true:=g;have c:(bO (Mode.of (v++⟨.sign me,q.size+1⟩::⟨.word dR,q.size+3⟩::⟨.sign cq,q.size+9⟩::(j.map (Tok.up (q.size+10))++⟨.sign cY,a+0⟩::⟨.sign me,a+2⟩::⟨.word dR,a+4⟩::⟨.sign cq,w⟩::(k.map (Tok.up n)++[⟨.sign cY,B⟩,⟨.stop,D⟩]))))).1=b:=f;rw[l]at d c;have z:=SW (t _ _ _) (by simp) (H _ _) (ai0 _ _) (xt _ _ _ d);rw[z,De]at d c;have Y:=SW (t _ _ _) (by simp) (R _ _) (SX _) (xt _ _ _ d);rw[Y,Nq]at c;rw[<- c];simp};obtain⟨g,f⟩:=FC x;unfold tB at g f;rw[K]at g f;obtain⟨i,y,l,-⟩:=u (q.size+1) (⟨.word dR,q.size+3⟩::⟨.sign cq,q.size+9⟩::(j.map (Tok.up (q.size+10))++⟨.sign cY,e+0⟩::⟨.word AO,e+2⟩::⟨.sign cq,A⟩::(k.map (Tok.up o)++[⟨.sign cY,C⟩,⟨.stop,E⟩])));obtain⟨i,rfl⟩:∃m,i=m+2:=⟨i - 2,by simp only[List.length_cons,List.length_append]at y;omega⟩;rw[De]at l;have d:(bO (Mode.of (v++⟨.sign me,q.size+1⟩::⟨.word dR,q.size+3⟩::⟨.sign cq,q.size+9⟩::(j.map (Tok.up (q.size+10))++⟨.sign cY,e+0⟩::⟨.word AO,e+2⟩::⟨.sign cq,A⟩::(k.map (Tok.up o)++[⟨.sign cY,C⟩,⟨.stop,E⟩]))))).2.ok=true:=g;have c:(bO (Mode.of (v++⟨.sign me,q.size+1⟩::⟨.word dR,q.size+3⟩::⟨.sign cq,q.size+9⟩::(j.map (Tok.up (q.size+10))++⟨.sign cY,e+0⟩::⟨.word AO,e+2⟩::⟨.sign cq,A⟩::(k.map (Tok.up o)++[⟨.sign cY,C⟩,⟨.stop,E⟩]))))).1=b:=f;rw[l]at d c;have z:=afv (t _ _ _) (t _ _ _) (by simp) (H _ _) (W _ _) (SX _) (xt _ _ _ d);rw[z,Nq]at c;exact c.symm
