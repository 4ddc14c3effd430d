import Derived.Test.YtcoaphfimellcaaGreatDoorQAE
set_option maxHeartbeats 0
set_option maxRecDepth 100000
namespace Go.Proofs.YtcoaphfimellcaaGreatDoor
open Go.RowKit
open _root_.Go.Proofs.Tryz
open Option renaming some→σ,none→ν
open Go.IntKind renaming i64→κ
open Go.Ending renaming returned→τ
open Go.Obj renaming cells→ξ
open Go renaming World→ω,Value→υ
open Go.Value renaming int→ι,string→θ,slice→ψ,pointer→π,agg→χ
variable{x:ByteArray}{l s:Nat}{i:TypeId}{t:Int}{r:υ}
section
variable {o:ω×υ} {w w':ω} {p:Nat} {c:fQ} {v:υ} {m:Mode} {n:Nat}
theorem BZ(m:Mode)(d:Nat):(m.wrong d).next=m.wrong d:=by cases m<;>rfl
theorem EB{m:Mode}(g:¬m.alive):∀d e,m=.live d e->d.k.ends=false:=λd e f=>by subst f;exact absurd trivial g
theorem Rd.tok(k:Rd o w p c v m n):∃(j:Nat) (d:ByteArray) (i:Nat) (e:Int),w.cell? ⟨p,2,ν⟩=σ (ι .u8 j)/\w.cell? ⟨p,3,ν⟩=σ (θ d)/\w.cell? ⟨p,4,ν⟩=σ (ι κ i)/\w.cell? ⟨p,5,ν⟩=σ (ι κ e)/\Hid (m.alive->i=m.place)/\cK e/\Hid (m.alive->nr j d e m.tk)/\Hid (∀f,m.is f=true->d=f):=by
 obtain⟨t,r,q,_⟩:=k.ex;refine⟨_,_,_,_,q.pen.cell 2,q.pen.cell 3,q.pen.cell 4,q.pen.cell 5,ak λg=>?_,q.tn,ak λg=>?_,ak λf l=>(Us q.mode l).1⟩;all_goals
  have:=q.mode
  cases m with
  |dead _ _=>exact g.elim
  |live d s=>first|exact this.2.2.1|exact this.2.1
theorem apt(s:m.is p8=false)(r:m.alive->nr l x t m.tk):(((l:Int)=110\/(l:Int)=115)/\(jk m).2=m.next/\∀x k,m=.live x k->x.k.ends=false)\/
 (((l:Int)==110)=false/\((l:Int)==115)=false/\(jk m).2=if m.is Cd then m.next else if m.is wH then m.next else if m.is uq then m.next else m.wrong 2):=by
 have e:jk m=_:=aE (by rw[s];decide);have u:∀f:Al×Mode,(∀a b c g d:Al,f=(if m.is Cd then(a,m.next)else if m.is wH then(b,m.next)else if m.is uq then(c,m.next)else(g,m.wrong 2))->f.2=if m.is Cd then m.next else if m.is wH then m.next else if m.is uq then m.next else m.wrong 2):=λf a b c g _ d=>by
  rw[d];split
  . rfl
  . split
    . rfl
    . split<;>rfl
 cases m with
 |dead d b=>
   by_cases i:(l:Int)=110
   . exact .inl ⟨.inl i,rfl,λ_ _ d=>by cases d⟩
   . by_cases j:(l:Int)=115
     . exact .inl ⟨.inr j,rfl,λ_ _ d=>by cases d⟩
     . exact .inr ⟨by rw[aL];exact i,by rw[aL];exact j,rfl⟩
 |live tk k=>
   have y:=r trivial;obtain⟨z,A⟩:=tk
   cases z<;>simp only[nr,Mode.tk]at y
   case num=>exact .inl ⟨.inl (by omega),by rw[e];rfl,λ_ _ d=>by cases d;rfl⟩
   case str=>exact .inl ⟨.inr (by omega),by rw[e];rfl,λ_ _ d=>by cases d;rfl⟩
   all_goals exact .inr ⟨by rw[aL];omega,by rw[aL];omega,u _ _ _ _ _ Ns e⟩
theorem Nb(g:m.is x=true):∀d e,m=.live d e->d.k.ends=false:=λd e f=>by subst f;exact F5 g
theorem av2(s:m.is p8=false)(k:m.alive->nr l x t m.tk)(i:∀j,m.is j=true->x=j):((jk m).2=m.next/\(∀x u,m=.live x u->x.k.ends=false)/\
 (((l:Int)==110)=true\/(((l:Int)==110)=false/\((l:Int)==115)=true)\/(((l:Int)==110)=false/\((l:Int)==115)=false/\m.is (ByteArray.mk #[116,114,117,101])=true/\(x.toList==[116,114,117,101])=true)\/
 (((l:Int)==110)=false/\((l:Int)==115)=false/\m.is (ByteArray.mk #[116,114,117,101])=false/\m.is (ByteArray.mk #[102,97,108,115,101])=true/\(x.toList==[116,114,117,101])=false)\/
 (((l:Int)==110)=false/\((l:Int)==115)=false/\m.is (ByteArray.mk #[116,114,117,101])=false/\m.is (ByteArray.mk #[102,97,108,115,101])=false/\m.is (ByteArray.mk #[110,117,108,108])=true)))\/
 ((jk m).2=m.wrong 2/\((l:Int)==110)=false/\((l:Int)==115)=false/\m.is (ByteArray.mk #[116,114,117,101])=false/\m.is (ByteArray.mk #[102,97,108,115,101])=false/\m.is (ByteArray.mk #[110,117,108,108])=false):=by rcases apt s k with⟨e,d,r⟩|⟨f,g,d⟩;{refine .inl ⟨d,r,?_⟩;rcases e with e|e;{exact .inl (by rw[dC];exact e)};exact .inr (.inl ⟨by rw[aL];omega,by rw[dC];exact e⟩)};cases iT:m.is Cd;{rw[aE (by rw[iT];decide)]at d;cases iF:m.is wH;{rw[aE (by rw[iF];decide)]at d;cases iN:m.is uq;{rw[aE (by rw[iN];decide)]at d;exact .inr ⟨d,f,g,iT,iF,iN⟩};rw[aF iN]at d;exact .inl ⟨d,Nb iN,.inr (.inr (.inr (.inr ⟨f,g,iT,iF,iN⟩)))⟩};rw[aF iF]at d;exact .inl ⟨d,Nb iF,.inr (.inr (.inr (.inl ⟨f,g,iT,iF,by rw[i _ iF,dK];rfl⟩)))⟩};rw[aF iT]at d;exact .inl ⟨d,Nb iT,.inr (.inr (.inl ⟨f,g,iT,by rw[i _ iT,dK];rfl⟩))⟩
theorem av3{m:Mode}(j:m.is p8=true)(e:nr l x t m.next.tk):(((l:Int)==110)=true/\(jk m).2=m.next.next/\∀x f,m.next=.live x f->x.k.ends=false)\/(((l:Int)==110)=false/\(jk m).2=m.next.wrong 2):=by
 have d:jk m=_:=aF j;cases hk:m.next.tk<;>(rw[hk]at e d;simp only[nr]at e);case num=>exact .inl ⟨by rw[dC];omega,by rw[d],λx f i=>by rw[i]at hk;have g:x.k=_:=hk;rw[g];rfl⟩
 all_goals exact .inr ⟨by rw[aL];omega,by rw[d]⟩
theorem TU{m:Mode}(d:m.alive):m.next.alive:=by
 cases m with
 |dead f b=>exact d
 |live g e=>cases e<;>exact d
theorem Rd.value(d:Rd o w p c v m n):Calls prog 51 #[π (σ ⟨p,0,ν⟩)] w λe w'=>
 ∃(a D:Int) (b:Bool) (C:Int) (ab:ByteArray),e=τ (χ #[ι κ a,ι κ D,.bool b,ι κ C,θ ab])/\Rd o w' p c v (jk m).2 n/\Fq p v v w w':=by
 obtain⟨D,ad,aa,C,c2,c3,c4,c5,W,_,Y,hw⟩:=d.tok;have cL:=d.lt;cases x:m.is (ByteArray.mk #[45]);case' false=>
  rcases av2 x Y.J hw.J with⟨j,u,i|⟨i,s⟩|⟨i,s,y,tT⟩|⟨i,s,y,B,tT⟩|⟨i,s,y,B,iN⟩⟩|⟨j,i,s,y,B,iN⟩;all_goals
   go_in;go_wp2_with(go_at_call 35;refine((d.start.Qb _ _ _ _ _ _).rd.is _).mono ?_;rintro r' w' ⟨rfl,rfl⟩);first
    | (refine((d.start.Qb _ _ _ _ _ _).rd.next u).mono ?_
       rintro e z ⟨rfl,g,f⟩;have S:=(d.start.Qb _ _ _ _ _ _).call g f)
    | (refine((d.start.Qb _ _ _ _ _ _).rd.fail 2 aa (by decide) W).mono ?_
       rintro e w8 ⟨rfl,l,t⟩;go_wp2_with fail;refine(l.next (EB (di m 2))).mono ?_;rintro e z ⟨rfl,g,f⟩;rw[<- BZ m 2]at j;have S:=((d.start.Qb _ _ _ _ _ _).call l t).call g f)
 case' true=>
  obtain⟨N,O,e5⟩:=d.live x;go_in;go_wp2_with(go_at_call 35;refine((d.start.Qb _ _ _ _ _ _).rd.is _).mono ?_;rintro r' w' ⟨rfl,rfl⟩);refine((d.start.Qb _ _ _ _ _ _).rd.next O).mono ?_;rintro e w1 ⟨rfl,A,P⟩;have k:=(d.start.Qb _ _ _ _ _ _).call A P;obtain⟨k',t',i',j',b2,_,b4,b5,F,hj,Z,_⟩:=A.tok;obtain⟨Q,R,T,U,V⟩:=uP k.box;have al:=bX k.box 3;have fE:=k.rd.lt;obtain⟨⟨_,nR⟩,E⟩:=k.ok _ (dv ..);have hq:=(E _ rfl).1;have r:=ak λac=>k.put 3 ac;rcases av3 x (Z.J (TU N))with⟨i,j,u⟩|⟨i,j⟩;all_goals
   go_wp2_with fail;first
    | (refine((r.J _).rd.next u).mono ?_
       rintro e z ⟨rfl,g,f⟩;have S:=(r.J _).call g f)
    | (refine((r.J _).rd.fail 2 i' (by decide) F).mono ?_
       rintro e w8 ⟨rfl,l,t⟩;go_wp2_with fail;refine(l.next (EB (di m.next 2))).mono ?_;rintro e z ⟨rfl,g,f⟩;rw[<- BZ m.next 2]at j;have S:=((r.J _).call l t).call g f)
 all_goals(obtain⟨Q,R,T,U,V⟩:=uP S.box;obtain⟨G,H,I,K,M⟩:=uP S.drop.drop.box;have zz:=bX S.drop.drop.box;go_wp2_with fail;refine aB (by simp[results,results51,go_sem,G,H,I,K,M];rfl) rfl ?_;rw[j];exact⟨_,_,_,_,_,rfl,(((((S.lO.lO.put 0 _).put 1 _).put 2 _).put 3 _).put 4 _).fin d⟩)
end
section
variable {o:ω×υ} {w w':ω} {p:Nat} {c:fQ} {v:υ} {m:Mode} {n:Nat} {L:List Item}
theorem Rd.err(e:Rd o w p c v m n):∃d:Nat,w.cell? ⟨p,6,ν⟩=σ (ι κ d)/\((m.alive/\((d:Int)==0)=true)\/(¬m.alive/\((d:Int)==0)=false)):=by
 obtain⟨g,j,q,_⟩:=e.ex;refine⟨g.e,q.pen.cell 6,?_⟩;have:=q.mode
 cases m with
 |dead _ _=>exact .inr ⟨λe=>e,by obtain⟨f,_,i⟩:=this;rw[aL];omega⟩
 |live k l=>exact .inl ⟨trivial,by have f:=this.1;rw[dC];omega⟩
theorem Rd.av5(j:Rd o w p c v m n)(l:m.alive)(r:∀d e,m=.live d e->d.k.ends=false):m.next.len+1=m.len:=by
 obtain⟨g,s,q,_⟩:=j.ex
 cases m with
 |dead _ _=>exact l.elim
 |live d e=>
   obtain⟨_,_,_,k,_⟩:=q.mode;have i:=k (r d e rfl);have f:=Cc g.S g.pos;rw[<- i]at f
   cases e with
   |nil=>exact absurd rfl f
   |cons t u=>rfl
theorem apu{sub:Option AK}(k:m.alive)(r:¬m.is dA=true)(g:nr l x t m.tk) :
 ((jJ sub m).2=m.next/\(∀x j,m=.live x j->x.k.ends=false)/\(((l:Int)==110)=true\/(((l:Int)==110)=false/\((l:Int)==115)=true)\/(((l:Int)==110)=false/\((l:Int)==115)=false/\((l:Int)==97)=true)\/
   (((l:Int)==110)=false/\((l:Int)==115)=false/\((l:Int)==97)=false/\((l:Int)==119)=true/\(x.toList==[116,114,117,101])=true)\/
   (((l:Int)==110)=false/\((l:Int)==115)=false/\((l:Int)==97)=false/\((l:Int)==119)=true/\(x.toList==[116,114,117,101])=false/\(x.toList==[102,97,108,115,101])=true)))\/
 ((jJ sub m).2=m.wrong 2/\((((l:Int)==110)=false/\((l:Int)==115)=false/\((l:Int)==97)=false/\((l:Int)==119)=false)\/
   (((l:Int)==110)=false/\((l:Int)==115)=false/\((l:Int)==97)=false/\((l:Int)==119)=true/\(x.toList==[116,114,117,101])=false/\(x.toList==[102,97,108,115,101])=false))):=by
 have f:jJ sub m=_:=aE r;have d:∀a:Int,(l:Int)≠a->((l:Int)==a)=false:=λa g=>by rw[aL];exact g
 cases m with
 |dead _ _=>exact k.elim
 |live tk j=>
   obtain⟨y,z⟩:=tk
   cases y<;>simp only[nr,Mode.tk]at g
   case num=>exact .inl ⟨by rw[f];rfl,λ_ _ e=>by cases e;rfl,.inl (by rw[dC];omega)⟩
   case str=>exact .inl ⟨by rw[f];rfl,λ_ _ e=>by cases e;rfl,.inr (.inl ⟨d _ (by omega),by rw[dC];omega⟩)⟩
   case name=>exact .inl ⟨by rw[f];rfl,λ_ _ e=>by cases e;rfl,.inr (.inr (.inl ⟨d _ (by omega),d _ (by omega),by rw[dC];omega⟩))⟩
   case word s=>
    have i:((l:Int)==119)=true:=by rw[dC];omega
    have u:=g.2.1;subst u
    cases hT:iZ x Cd
    . cases hF:iZ x wH
      . exact .inr ⟨by rw[f];simp only[Mode.tk,hT,hF];rfl,.inr ⟨d _ (by omega),d _ (by omega),d _ (by omega),i,by rw[dK];exact hT,by rw[dK];exact hF⟩⟩
      . exact .inl ⟨by rw[f];simp only[Mode.tk,hT,hF];rfl,λ_ _ e=>by cases e;rfl,.inr (.inr (.inr (.inr ⟨d _ (by omega),d _ (by omega),d _ (by omega),i,by rw[dK];exact hT,by rw[dK];exact hF⟩)))⟩
    . exact .inl ⟨by rw[f];simp only[Mode.tk,hT];rfl,λ_ _ e=>by cases e;rfl,.inr (.inr (.inr (.inl ⟨d _ (by omega),d _ (by omega),d _ (by omega),i,by rw[dK];exact hT⟩)))⟩
   all_goals exact .inr ⟨by rw[f];rfl,.inl ⟨d _ (by omega),d _ (by omega),d _ (by omega),d _ (by omega)⟩⟩
theorem gb{a b c d e f:υ}(g:w.heap[l]?=σ (ξ #[a,b,c,r,d,e,f] i (0,0))) :
 w.cell? ⟨l,0,ν⟩=σ a/\w.cell? ⟨l,1,ν⟩=σ b/\w.cell? ⟨l,2,ν⟩=σ c/\w.cell? ⟨l,3,ν⟩=σ r/\w.cell? ⟨l,4,ν⟩=σ d/\w.cell? ⟨l,5,ν⟩=σ e/\w.cell? ⟨l,6,ν⟩=σ f:=by simp[World.cell?,g]
theorem Lu(y:Nat)(d:Rd o w p c v m n)(hf:n+m.len<=600)(O:m.is (ByteArray.mk #[40])=false):Calls prog 239 #[π (σ ⟨p,0,ν⟩)] w λi w'=>∃(M:υ) (K E:Nat),i=τ (ι κ E)/\Rd o w' p c M (jJ (lvl y) m).2 K/\Fq p v M w w'/\Bd m (jJ (lvl y) m).2 n K E:=by
 obtain⟨E,A,f,H,c2,c3,c4,c5,hi,_,D,_⟩:=d.tok;obtain⟨Y,c6,he⟩:=d.err;have cL:=d.lt;rcases he with⟨e,Z⟩|⟨e,Z⟩
 .rcases apu (sub:=lvl y) e (by show¬m.is (ByteArray.mk #[40])=true;rw[O];decide) (D.J e)with⟨t,G,C⟩|⟨t,C⟩
  .rw[t];have hl:=d.av5 e G;clear t D e;rcases C with g|⟨g,u⟩|⟨g,u,z⟩|⟨g,u,z,F,I⟩|⟨g,u,z,F,I,k6⟩
   all_goals(go_in;go_wp2_with(go_at_call 35;refine((d.start.vm _ _ _ _).rd.is _).mono ?_;rintro r' w' ⟨rfl,rfl⟩);refine((d.start.vm _ _ _ _).rd.next G).mono ?_;rintro i w1 ⟨rfl,l,B⟩;have S:=(d.start.vm _ _ _ _).call l B;obtain⟨P,Q,R,T,U,V,W⟩:=gb S.box;go_wp2_with fail;refine(l.node ⟨_,f,f,0,0,_,A⟩ (by omega)).mono ?_;rintro i N ⟨x,rfl,r,j⟩;go_wp2_with fail;go_ret;obtain⟨s,k⟩:=(S.call r j).fin d;exact⟨x,_,n,rfl,s,k,by omega,by omega,by omega⟩)
  rw[t];clear t D e;rcases C with⟨g,u,z,F⟩|⟨g,u,z,F,I,k6⟩
  all_goals(go_in;go_wp2_with(go_at_call 35;refine((d.start.vm _ _ _ _).rd.is _).mono ?_;rintro r' w' ⟨rfl,rfl⟩);refine((d.start.vm _ _ _ _).rd.fail 2 f (by decide) hi).mono ?_;rintro i w1 ⟨rfl,l,B⟩;have S:=(d.start.vm _ _ _ _).call l B;obtain⟨P,Q,R,T,U,V,W⟩:=gb S.box;go_wp2_with fail;refine(l.node ⟨_,f,f,0,0,H,A⟩ (by omega)).mono ?_;rintro i N ⟨x,rfl,r,j⟩;go_wp2_with fail;go_ret;obtain⟨s,k⟩:=(S.call r j).fin d;exact⟨x,_,n,rfl,s,k,Bd.dead (di m 2)⟩)
 have hs:(jJ (lvl y) m).2=m:=by
  cases m with
  |live A ts=>exact absurd trivial e
  |dead Y b=>rfl
 rw[hs];go_in;go_wp2_with fail;refine((d.start.vm _ _ _ _).rd.node ⟨⟨#[]⟩,f,f,0,0,H,A⟩ (by omega)).mono ?_;rintro i N ⟨x,rfl,r,j⟩;go_wp2_with fail;go_ret;obtain⟨s,k⟩:=((d.start.vm _ _ _ _).call r j).fin d;exact⟨x,_,n,rfl,s,k,Bd.dead e⟩
end
theorem or4(a b c d:Bool):(a=false/\b=false/\c=false/\d=false)\/a=true\/(a=false/\b=true)\/(a=false/\b=false/\c=true)\/(a=false/\b=false/\c=false/\d=true):=by cases a<;>cases b<;>cases c<;>cases d<;>simp
theorem Qd{m:Mode}(d:¬m.alive)(e:ByteArray):m.is e=false:=by
 cases m with
 |live g i=>exact absurd trivial d
 |dead f b=>rfl
theorem TV{m:Mode}{s:ByteArray}(d:(m.take s).alive):m.alive:=by
 cases m with
 |live f g=>trivial
 |dead e b=>exact d
theorem Vt(m d:Mode)(e:m.name.2.take xO=d):(ku m).2=if d.is kI&&((if d.is kI||d.is Am||d.is Bj||d.is Cf then d.next else d.wrong 2).take dA).is fG then((if d.is kI||d.is Am||d.is Bj||d.is Cf then d.next else d.wrong 2).take dA).take fG else((if d.is kI||d.is Am||d.is Bj||d.is Cf then d.next else d.wrong 2).take dA).name.2.take fG:=by subst e;unfold ku;simp only;generalize (if(m.name.2.take xO).is kI||(m.name.2.take xO).is Am||(m.name.2.take xO).is Bj||(m.name.2.take xO).is Cf then(m.name.2.take xO).next else(m.name.2.take xO).wrong 2)=m2;split<;>rfl
theorem I8(m:Mode):(ku m).2.len<=m.len:=by rw[Vt m _ rfl];have d:=ag (take_len m.name.2 xO) (dI m);generalize m.name.2.take xO=m1 at d ⊢;have e:(if m1.is kI||m1.is Am||m1.is Bj||m1.is Cf then m1.next else m1.wrong 2).len<=m1.len:=(by split;{exact dr};rw[(oV (di m1 2)).1];omega);generalize (if m1.is kI||m1.is Am||m1.is Bj||m1.is Cf then m1.next else m1.wrong 2)=m2 at e ⊢;have f:=take_len m2 dA;have g:=take_len (m2.take dA) fG;have i:=dI (m2.take dA);have j:=take_len (m2.take dA).name.2 fG;split<;>omega
section
variable {o:ω×υ} {w w':ω} {p:Nat} {c:fQ} {v:υ} {m:Mode} {n:Nat}
theorem Rd.made(E:Rd o w p c v m n):Calls prog 74 #[π (σ ⟨p,0,ν⟩)] w λk w'=>
 ∃(a1:ByteArray) (l:Int) (a2:ByteArray) (t:Int) (a3:ByteArray) (A:Int) (b:Bool),k=τ (χ #[θ a1,ι κ l,θ a2,ι κ t,θ a3,ι κ A,.bool b])/\Rd o w' p c v (ku m).2 n/\Fq p v v w w':=by
 have cL:=E.lt;go_in;go_wp2_with fail;refine((E.start.vm _ _ _ _).rd.name).mono ?_;rintro k w0 ⟨s0,j0,rfl,h0,f0⟩;have S:=(E.start.vm _ _ _ _).call h0 f0;obtain⟨g0,g1,_⟩:=gb S.box;have z0:=bX S.box 0;have z1:=bX S.box 1;have S0:=(S.put 0 (θ s0)).put 1 (ι κ j0);go_wp2_with fail;refine(S0.rd.take _).mono ?_;rintro k w1 ⟨_,rfl,Ap,f1⟩;have h1:Rd (w,v) w1 p c v (m.name.2.take xO) n:=Ap;have C:=S0.call h1 f1;have N:=ak (Vt m _ rfl);generalize m.name.2.take xO=d at h1 C N;obtain⟨an,r,ab,am,c2,c3,c4,c5,hi,_,_,Q⟩:=h1.tok;obtain⟨T,U,V,W,Y,Z,y6⟩:=gb C.box;have x2:=bX C.box 2;have x3:=bX C.box 3;have fE:=((C.ok _ (.head _)).2 _ rfl).1;have x:=(C.put 3 (ι κ ab)).put 2 (θ r);have HC:Hid (d.is kI=true->(r.toList==[99,111,117,110,116])=true):=ak λz=>by rw[Q.J _ z,dK];rfl
 have V5:Hid (d.is Am=true->(r.toList==[99,111,117,110,116])=false):=ak λz=>by rw[Q.J _ z,dK];rfl
 have uA:Hid (d.is Bj=true->(r.toList==[99,111,117,110,116])=false):=ak λz=>by rw[Q.J _ z,dK];rfl
 have ac:Hid (d.is Cf=true->(r.toList==[99,111,117,110,116])=false):=ak λz=>by rw[Q.J _ z,dK];rfl
 rcases or4 (d.is (ByteArray.mk #[99,111,117,110,116])) (d.is (ByteArray.mk #[115,117,109])) (d.is (ByteArray.mk #[109,105,110])) (d.is (ByteArray.mk #[109,97,120]))with⟨g,l,t,A⟩|g|⟨g,l⟩|⟨g,l,t⟩|⟨g,l,t,A⟩;{have B5:(d.is kI||d.is Am||d.is Bj||d.is Cf)=false:=(by rw[show d.is kI=false from g,show d.is Am=false from l,show d.is Bj=false from t,show d.is Cf=false from A];rfl);have B:=ak (N.J.trans (aE (by rw[show d.is kI=false from g,Bool.false_and];decide)));rw[B5]at B;by_cases M:(r.toList==[99,111,117,110,116])=true;(case' neg=>have al:(r.toList==[99,111,117,110,116])=false:=by simpa using M);(case' pos=>have al:=M);all_goals(go_wp2_with(go_at_call 35;refine(x.rd.is _).mono ?_;rintro I w' ⟨rfl,rfl⟩);refine(x.rd.fail 2 ab (by decide) hi).mono ?_;rintro k w2 ⟨rfl,F,f2⟩;go_wp2_with fail;refine(F.take _).mono ?_;rintro k w3 ⟨_,rfl,O,f3⟩;have e:=(x.call F f2).call O f3;have yu:=Qd (λha=>di d 2 (TV (s:=ByteArray.mk #[40]) ha)) (ByteArray.mk #[41]);obtain⟨T,U,V,W,Y,Z,y6⟩:=gb e.box;go_wp2_with(go_at_call 35;refine(e.rd.is _).mono ?_;rintro I w' ⟨rfl,rfl⟩);refine(e.rd.name).mono ?_;rintro k w4 ⟨K,H,rfl,G,D⟩;have j:=e.call G D;obtain⟨_,_,_,_,f,k5,_⟩:=gb j.box;have x4:=bX j.box 4;have x5:=bX j.box 5;have y:=(j.put 4 (θ K)).put 5 (ι κ H);go_wp2_with fail;refine(y.rd.take _).mono ?_;rintro k w6 ⟨_,rfl,h6,f6⟩;have s:=y.call h6 f6;obtain⟨d0,d1,d2,d3,d4,d5,d6⟩:=gb s.drop.box;obtain⟨g0,g1,g2,g3,g4,g5,g6⟩:=gb s.box;have i:=bX s.drop.box;have z0:=i 0;have z1:=i 1;have z2:=i 2;have z3:=i 3;have z4:=i 4;have z5:=i 5;have z6:=i 6;go_wp2_with fail;refine aB (v:=_) (by simp[results,results74,go_sem,d0,d1,d2,d3,d4,d5,d6];rfl) rfl ?_;refine⟨_,_,_,_,_,_,_,rfl,?_⟩;rw[B.J];exact(((((((s.lO.put 0 _).put 1 _).put 2 _).put 3 _).put 4 _).put 5 _).put 6 _).fin E)};all_goals
  have B5:(d.is kI||d.is Am||d.is Bj||d.is Cf)=true:=by first|rw[show d.is kI=true from g];rfl|rw[show d.is kI=false from g,show d.is Am=true from l];rfl|rw[show d.is kI=false from g,show d.is Am=false from l,show d.is Bj=true from t];rfl|rw[show d.is kI=false from g,show d.is Am=false from l,show d.is Bj=false from t,show d.is Cf=true from A];rfl
  rw[B5]at N;obtain⟨tt,it⟩:∃tt,d.is tt=true:=by first|exact⟨_,A⟩|exact⟨_,t⟩|exact⟨_,l⟩|exact⟨_,g⟩
  obtain⟨e3,e4,e5⟩:=x.rd.live it;go_wp2_with(go_at_call 35;refine(x.rd.is _).mono ?_;rintro I w' ⟨rfl,rfl⟩);refine(x.rd.next e4).mono ?_;rintro k w2 ⟨rfl,F,f2⟩;go_wp2_with fail;refine(F.take _).mono ?_;rintro k w3 ⟨_,rfl,ad,f3⟩;have O:Rd (w,v) w3 p c v (d.next.take dA) n:=ad;have e:=(x.call F f2).call O f3;obtain⟨T,U,V,W,Y,Z,y6⟩:=gb e.box;have HD:Hid ((((r.toList==[99,111,117,110,116])=false\/((r.toList==[99,111,117,110,116])=true/\(d.next.take dA).is (ByteArray.mk #[41])=false))/\(ku m).2=(d.next.take dA).name.2.take fG)\/((r.toList==[99,111,117,110,116])=true/\(d.next.take dA).is (ByteArray.mk #[41])=true/\(ku m).2=(d.next.take dA).take fG)):=by
   have u:=N.J;simp only[if_true]at u;first
    | (have aa:d.is kI=false:=g
       rw[aa]at u;exact ak (.inl ⟨.inl (by first|exact V5.J l|exact uA.J t|exact ac.J A),u⟩))
    | (have aa:d.is kI=true:=g
       rw[aa]at u
       cases R:(d.next.take dA).is (ByteArray.mk #[41])
       . rw[show(d.next.take dA).is fG=false from R]at u
         exact ak (.inl ⟨.inr ⟨HC.J g,rfl⟩,u⟩)
       . rw[show(d.next.take dA).is fG=true from R]at u
         exact ak (.inr ⟨HC.J g,rfl,u⟩))
  generalize d.next.take dA=m2 at O e HD;rcases HD.J with⟨M|⟨M,R⟩,P⟩|⟨M,R,P⟩
  (case' inr=>have ao:=bX e.box 6;have y:=e.put 6 (.bool true);have B:=ak P;go_wp2_with(go_at_call 35;refine(e.rd.is _).mono ?_;rintro I w' ⟨rfl,rfl⟩));(case' inl.inl=>have B:=ak P;go_wp2_with(go_at_call 35;refine(e.rd.is _).mono ?_;rintro I w' ⟨rfl,rfl⟩);refine(e.rd.name).mono ?_;rintro k w4 ⟨K,H,rfl,G,D⟩;have j:=e.call G D;obtain⟨_,_,_,_,f,k5,_⟩:=gb j.box;have x4:=bX j.box 4;have x5:=bX j.box 5;have y:=(j.put 4 (θ K)).put 5 (ι κ H);have T:=f;have U:=f;have V:=f;have W:=f;have Y:=f;have Z:=f;have y6:=f;go_wp2_with fail);(case' inl.inr=>have B:=ak P;go_wp2_with(go_at_call 35;refine(e.rd.is _).mono ?_;rintro I w' ⟨rfl,rfl⟩);refine(e.rd.name).mono ?_;rintro k w4 ⟨K,H,rfl,G,D⟩;have j:=e.call G D;obtain⟨_,_,_,_,f,k5,_⟩:=gb j.box;have x4:=bX j.box 4;have x5:=bX j.box 5;have y:=(j.put 4 (θ K)).put 5 (ι κ H);have T:=f;have U:=f;have V:=f;have W:=f;have Y:=f;have Z:=f;have y6:=f;go_wp2_with fail);all_goals(refine(y.rd.take _).mono ?_;rintro k w6 ⟨_,rfl,h6,f6⟩;have s:=y.call h6 f6;obtain⟨d0,d1,d2,d3,d4,d5,d6⟩:=gb s.drop.box;obtain⟨g0,g1,g2,g3,g4,g5,g6⟩:=gb s.box;have i:=bX s.drop.box;have z0:=i 0;have z1:=i 1;have z2:=i 2;have z3:=i 3;have z4:=i 4;have z5:=i 5;have z6:=i 6;go_wp2_with fail;refine aB (v:=_) (by simp[results,results74,go_sem,d0,d1,d2,d3,d4,d5,d6];rfl) rfl ?_;refine⟨_,_,_,_,_,_,_,rfl,?_⟩;rw[B.J];exact(((((((s.lO.put 0 _).put 1 _).put 2 _).put 3 _).put 4 _).put 5 _).put 6 _).fin E)
end
theorem TW(g:List kB)(f j:Nat)(s:f<g.length):∃r:List kB,r.length=g.length/\oK r=(oK g).set (f*7+2) (ι κ j):=by
 refine⟨g.modify f (λv=>{ v with first:=j }),by simp,?_⟩;refine cB λq=>?_;rw[bH];obtain⟨e,d,i,rfl⟩:∃e d,d<7/\q=e*7+d:=⟨q / 7,q % 7,Nat.mod_lt _ (by decide),by omega⟩;rw[Bm _ e d i,Bm _ e d i,Q5,List.getElem?_modify];by_cases l:f=e
 .subst l;rw[af s];by_cases k:d=2;{subst k;rw[aF rfl,aF (by omega)];simp[ux]}
  rw[aE (by omega)]
  simp only[if_true,Option.map_eq_map,Option.map_some,Option.bind_some]
  match d,i,k with
  |0,_,_=>rfl
  |1,_,_=>rfl
  |3,_,_=>rfl
  |4,_,_=>rfl
  |5,_,_=>rfl
  |6,_,_=>rfl
 rw[aE (by omega)];simp[l]
section
variable {o:ω×υ} {w w':ω} {p:Nat} {c:fQ} {v:υ} {m:Mode} {n:Nat} {L:List Item}
theorem Rd.first{d:Nat}(t:Rd o w p c (ψ (σ (Ad l 0)) n s) m n)(j:d<n)(e:Nat):Rd o (w.setCell (Ad l (d*7+2)) (ι κ e)) p c (ψ (σ (Ad l 0)) n s) m n/\Fq p (ψ (σ (Ad l 0)) n s) (ψ (σ (Ad l 0)) n s) w (w.setCell (Ad l (d*7+2)) (ι κ e)):=by obtain⟨g,y,q,k,f,rfl⟩:=t.ex;obtain⟨E,u,D⟩:=TW y d e j;rw[<- f]at q ⊢;have C:¬YS p g.nodes w l:=q.kv l (by rw[f];rfl);have z:l≠p:=λA=>q.apart (by rw[f,A];rfl);have i:aX (YS p g.nodes w) w (w.setCell (Ad l (d*7+2)) (ι κ e)):=(aX.refl _ w).setCell (p:=(Ad l (d*7+2))) C _;have r:=q.own;rw[f]at r;obtain⟨F,_⟩:=r.stored (d*7+2) (ι κ e);have B:Rd o w p c g.nodes m y.length:=f ▸ t;have G:ib (YS p g.nodes w) (w.setCell (Ad l (d*7+2)) (ι κ e)) p g m E:=⟨q.pen.jM (ay _ _ _ _ (Ne.symm z)),λx H k=>(i.cell (p:=(Ad 0 x)) q.k0).trans (q.laid x H k),q.p0,q.Bp,q.pos,q.tk,q.tn,q.tp,q.mode,by rw[u,D,f];exact F,q.apart,q.k0,q.kp,q.kv,λd j=>ai (q.old d j) i.size⟩;have:=B.GA k G i;rwa[u]at this
theorem Yu{m:Mode}(d:¬m.alive):m.take x=m:=by
 cases m with
 |live f g=>exact absurd trivial d
 |dead e b=>rfl
theorem Bd.ahU{m d:Mode}{n:Nat}(f:ByteArray)(b:Bd m.next d n l s)(j:m.next.len+1=m.len):Bd m (d.take f) n l s:=by have g:=b.bud;refine⟨b.hi,b.gr,?_⟩;by_cases e:d.alive;{have i:=take_len d f;rw[rI e]at g;omega};rw[Yu e];omega
theorem Qe{a b c:υ}(d:w.heap[l]?=σ (ξ #[a,b,c,r] i (0,0))):w.cell? (Ad l 0)=σ a/\w.cell? (Ad l 1)=σ b/\w.cell? (Ad l 2)=σ c/\w.cell? (Ad l 3)=σ r:=by simp[World.cell?,d]
theorem Yv:PF 239 jJ 0:=by intro o w p c v m n d R u;cases AU:m.is (ByteArray.mk #[40]);{exact Lu 0 d u AU};obtain⟨U,z,g,x,B,C,D,E,T,_,_,_⟩:=d.tok;obtain⟨i,F,t⟩:=d.err;have Q:((i:Int)==0)=true:=(by rcases t with e|e;{exact e.2};exact absurd (d.live AU).1 e.1);have G:=d.lt;rw[show jJ (lvl 0) m=(.junk,m.wrong 3)from aF AU];go_in;go_wp2_with(go_at_call 35;refine((d.start.vm _ _ _ _).rd.is _).mono ?_;rintro V w' ⟨rfl,rfl⟩);refine((d.start.vm _ _ _ _).rd.NC (by omega)).mono ?_;rintro y W ⟨rfl,f,j⟩;have S:=(d.start.vm _ _ _ _).call f j;obtain⟨H,I,K,M,N,O,P⟩:=gb S.box;go_wp2_with fail;refine(f.node ⟨⟨#[]⟩,g,g,0,0,x,z⟩ (by omega)).mono ?_;rintro y Y ⟨A,rfl,r,k⟩;go_wp2_with fail;go_ret;obtain⟨s,l⟩:=(S.call r k).fin d;exact⟨A,_,n,rfl,s,l,Bd.dead (di m 3)⟩
theorem Yw(e:Nat)(hx:PF 53 mO e):PF 239 jJ (e+1):=by
 intro o w p c v m n d hd Z;cases AU:m.is (ByteArray.mk #[40]);{exact Lu (e+1) d Z AU}
 obtain⟨am,an,aa,al,G,H,I,K,_,_,_,_⟩:=d.tok;obtain⟨j,M,Y⟩:=d.err;obtain⟨N,O,y⟩:=d.live AU;have e0:((j:Int)==0)=true:=(by rcases Y with l|l;{exact l.2};exact absurd N l.1);have cL:=d.lt;have hs:jJ (lvl (e+1)) m=((mO (lvl e) m.next).1,(mO (lvl e) m.next).2.take fG):=aF AU;rw[hs];go_in;go_wp2_with(go_at_call 35;refine((d.start.vm _ _ _ _).rd.is _).mono ?_;rintro r' w' ⟨rfl,rfl⟩);refine((d.start.vm _ _ _ _).rd.down O (by omega)).mono ?_;rintro C w1 ⟨rfl,z,P⟩;have D:=(d.start.vm _ _ _ _).call z P;clear G H I K M;go_wp2_with fail;refine(hx _ w1 p _ v m.next n z (by show c.deep+1+e=8;omega) (by omega)).mono ?_;rintro C w3 ⟨v3,x,u,rfl,A,Q,f⟩;go_wp2_with fail;refine(A.take _).mono ?_;rintro C w4 ⟨_,rfl,r,R⟩;have i:=(D.call A Q).call r R;obtain⟨_,_,t2,_⟩:=Qe i.drop.box;obtain⟨c8,z8,B,T⟩:=r.up;obtain⟨V,ac,rfl,ab,Uq,zf,fi,cf⟩:=r.acW f.hi;have g1:(u:Int)<x:=by have:=f.hi;omega
 have t:=(i.ok _ (.tail _ (.head _))).2 _ rfl;have ad:=t.1;have kC:V≠w.heap.size:=λj=>t.2 (bn σ j);obtain⟨W,U⟩:=B.first f.hi aa;have E:=(i.call B T).call W U;have F:=ak E;clear t;go_wp2_with fail;go_region;all_goals
  go_wp2_with fail;go_ret;have g:=F.J;first
   | (obtain⟨s,k⟩:=g.fin d;exact⟨_,x,u,rfl,s,k,f.ahU _ y⟩)
   | (obtain⟨s,k⟩:=(g.call g.rd.drew.1 g.rd.drew.2).fin d;exact⟨_,x,u,rfl,s,k,f.ahU _ y⟩)
theorem Yx(d:Nat):PF 215 iE d/\PF 100 iK d/\PF 53 mO d:=by
 induction d with
 |zero=>
   have f:=(Gr 0).1 Yv;have e:=(Gr 0).2.2.1 (Qc 0 (Lt 0 (Ls 0 f)));exact⟨f,e,Qa 0 (P9 0 e)⟩
 |succ d g=>
   have f:=(Gr d).2.1 (Yw d g.2.2) g.1;have e:=(Gr d).2.2.2 (Qc (d+1) (Lt (d+1) (Ls (d+1) f))) g.2.1;exact⟨f,e,Qa (d+1) (P9 (d+1) e)⟩
theorem Nc:PF 53 mO 8:=(Yx 8).2.2
end
theorem Tryz.Vu:(prog.info? 3).map (λd=>(d.zero,d.size,d.bytes))=σ (σ (ι κ 0),1,8):=by kernel_rfl
section
variable {o:ω×υ} {w w':ω} {p:Nat} {c:fQ} {v:υ} {m:Mode} {n:Nat} {L:List Item}
theorem St.drew(S:St o w p c v m n L):St o w.drew p c v m n L:=S.call S.rd.drew.1 S.rd.drew.2
theorem Rd.nh(e:Rd o w p c v m n):w.cell? (Ad p 14)=σ c.names/\w.cell? (Ad p 15)=σ c.kinds/\w.cell? (Ad p 16)=σ c.rows/\w.cell? (Ad p 18)=σ c.eQ/\∀f,w.frozen? (Ad p f)=false:=by obtain⟨i,g,q,d,_⟩:=e.ex;exact⟨(q.pen.cell 14).trans (bn σ d.names),(q.pen.cell 15).trans (bn σ d.kinds),(q.pen.cell 16).trans (bn σ d.rows),(q.pen.cell 18).trans (bn σ d.eQ),q.pen.fz⟩
theorem Rd.vw(k:Rd o w p c v m n):∃d e f g i j,w.cell? (Ad p 10)=σ d/\w.cell? (Ad p 11)=σ e/\w.cell? (Ad p 12)=σ f/\w.cell? (Ad p 13)=σ g/\w.cell? (Ad p 17)=σ i/\w.cell? (Ad p 9)=σ j:=by obtain⟨s,r,q,l,_⟩:=k.ex;exact⟨_,_,_,_,_,_,q.pen.cell 10,q.pen.cell 11,q.pen.cell 12,q.pen.cell 13,q.pen.cell 17,q.pen.cell 9⟩
theorem St.apv(S:St o w p c v m n L)(e:υ):St o (w.setCell (Ad p 9) e) p { c with word:=e } v m n L:=
 have f:=S.rd.fld (c':={ c with word:=e }) 9 e (λg d=>⟨{ g with word:=e },by simp[iL],⟨d.deep,rfl,d.names,d.kinds,d.rows,d.eQ,d.form⟩,rfl⟩)
 S.call f.1 f.2
theorem St.Qf(S:St o w p c v m n L)(f:ByteArray)(e:Int):St o ((w.setCell (Ad p 10) (θ f)).setCell (Ad p 11) (ι κ e)) p c v m n L:=
 have g:=S.rd.fld (c':=c) 10 (θ f) (λi d=>⟨{ i with Jp:=θ f },by simp[iL],⟨d.deep,d.word,d.names,d.kinds,d.rows,d.eQ,⟨f,rfl⟩,d.form.2⟩,rfl⟩);have j:=g.1.fld (c':=c) 11 (ι κ e) (λi d=>⟨{ i with Jq:=ι κ e },by simp[iL],⟨d.deep,d.word,d.names,d.kinds,d.rows,d.eQ,d.form.1,⟨e,rfl⟩,d.form.2.2⟩,rfl⟩)
 (S.call g.1 g.2).call j.1 j.2
theorem St.ahV(S:St o w p c v m n L)(f:ByteArray)(e:Int):St o ((w.setCell (Ad p 12) (θ f)).setCell (Ad p 13) (ι κ e)) p c v m n L:=
 have g:=S.rd.fld (c':=c) 12 (θ f) (λi d=>⟨{ i with Jr:=θ f },by simp[iL],⟨d.deep,d.word,d.names,d.kinds,d.rows,d.eQ,d.form.1,d.form.2.1,⟨f,rfl⟩,d.form.2.2.2⟩,rfl⟩);have j:=g.1.fld (c':=c) 13 (ι κ e) (λi d=>⟨{ i with Js:=ι κ e },by simp[iL],⟨d.deep,d.word,d.names,d.kinds,d.rows,d.eQ,d.form.1,d.form.2.1,d.form.2.2.1,⟨e,rfl⟩,d.form.2.2.2.2⟩,rfl⟩)
 (S.call g.1 g.2).call j.1 j.2
theorem St.ahW(S:St o w p c v m n L)(e:υ):St o (w.setCell (Ad p 14) e) p { c with names:=e } v m n L:=
 have f:=S.rd.fld (c':={ c with names:=e }) 14 e (λg d=>⟨{ g with names:=e },by simp[iL],⟨d.deep,d.word,rfl,d.kinds,d.rows,d.eQ,d.form⟩,rfl⟩)
 S.call f.1 f.2
theorem St.apw(S:St o w p c v m n L)(e:υ):St o (w.setCell (Ad p 15) e) p { c with kinds:=e } v m n L:=
 have f:=S.rd.fld (c':={ c with kinds:=e }) 15 e (λg d=>⟨{ g with kinds:=e },by simp[iL],⟨d.deep,d.word,d.names,rfl,d.rows,d.eQ,d.form⟩,rfl⟩)
 S.call f.1 f.2
theorem St.apx(S:St o w p c v m n L)(e:υ):St o (w.setCell (Ad p 16) e) p { c with rows:=e } v m n L:=
 have f:=S.rd.fld (c':={ c with rows:=e }) 16 e (λg d=>⟨{ g with rows:=e },by simp[iL],⟨d.deep,d.word,d.names,d.kinds,rfl,d.eQ,d.form⟩,rfl⟩)
 S.call f.1 f.2
theorem St.apy(S:St o w p c v m n L)(e:Int):St o (w.setCell (Ad p 17) (ι κ e)) p c v m n L:=
 have f:=S.rd.fld (c':=c) 17 (ι κ e) (λg d=>⟨{ g with cond:=ι κ e },by simp[iL],⟨d.deep,d.word,d.names,d.kinds,d.rows,d.eQ,d.form.1,d.form.2.1,d.form.2.2.1,d.form.2.2.2.1,e,rfl⟩,rfl⟩)
 S.call f.1 f.2
theorem St.ahX(S:St o w p c v m n L)(e:υ):St o (w.setCell (Ad p 18) e) p { c with eQ:=e } v m n L:=
 have f:=S.rd.fld (c':={ c with eQ:=e }) 18 e (λg d=>⟨{ g with eQ:=e },by simp[iL],⟨d.deep,d.word,d.names,d.kinds,d.rows,rfl,d.form⟩,rfl⟩)
 S.call f.1 f.2
theorem Rd.create(l:Rd o w p c v m n)(hm:m.len<=600)(DU:c.names=ψ ν 0 0)(EJ:c.kinds=ψ ν 0 0):Calls prog 36 #[π (σ (Ad p 0))] w λj w'=>
 j=τ (.tuple #[])/\∃(a a':Option Addr) (q q' u k':Nat),Rd o w' p { c with names:=ψ a q u,kinds:=ψ a' q' k' } v ((dc tj (m.name.2.take dA)).2.take fG) n/\Fq p v v w w':=by
 obtain⟨i0,hi,lC,lI,kQ⟩:=info_parts Tryz.Dr;obtain⟨j0,hj,al,am,U5⟩:=info_parts Tryz.Vu;go_in;go_wp2_with fail;refine(l.start.rd.name).mono ?_;rintro j w1 ⟨s1,j1,rfl,A,f1⟩;have av:=dI m;obtain⟨_,_,_,_,_,_,d0,d1,_⟩:=A.vw;have z0:=A.nh.2.2.2.2 10;have z1:=A.nh.2.2.2.2 11;have U:=(l.start.call A f1).Qf s1 j1;go_wp2_with fail;refine(U.rd.take _).mono ?_;rintro j w4 ⟨_,rfl,h4,f4⟩;have a1:=take_len m.name.2 dA;have S4:St (w,v) w4 p { c with names:=ψ ν 0 0,kinds:=ψ ν 0 0 } v (m.name.2.take dA) n [.row (ψ ν 0 0) 34 2 0,.row (ψ ν 0 0) 3 1 0]:=(by have ac:{ c with names:=ψ ν 0 0,kinds:=ψ ν 0 0 }=c:=(by cases c;cases DU;cases EJ;rfl);rw[ac];exact((U.call h4 f4).nil 3 1).nil 34 2);clear d0 d1 z0 z1;go_wp2_with fail;go_loopw[2] (λar wr=>∃(b:Bool) (d:Mode) (M N:υ) (q:Nat),ar=.bool b/\St (w,v) wr p { c with names:=M,kinds:=N } v d n [.row M 34 2 q,.row N 3 1 q]/\q+d.len<=m.len+1/\Hid ((q=0/\b=true/\d=m.name.2.take dA)\/(0<q/\b=d.is qa/\∃e i,d.len<=e/\jT tj e i d=dc tj (m.name.2.take dA)))) (λ_ wr=>2000 - lenOf ((wr.cell? (Ad p 14)).getD undef));case atStart=>exact⟨true,_,_,_,0,rfl,S4,by show 0+(m.name.2.take dA).len<=_;omega,ak (.inl ⟨rfl,rfl,rfl⟩)⟩
 case round=>
  obtain⟨b,d,M,N,q,rfl,S,wL,Q⟩:=hrel;obtain⟨va,vc,rfl⟩:=S.slice;obtain⟨ap,aq,rfl⟩:=S.drop.slice;have f:=S.rd.nh.1;have zX:lenOf ((wr.cell? (Ad p 14)).getD undef)=q:=by rw[f];rfl
  cases b
  .have HF:=ak (show jT tj 0 [] d=([],d)/\(dc tj (m.name.2.take dA)).2=d by
    refine⟨rfl,?_⟩;rcases Q.J with⟨-,r,-⟩|⟨-,r,e,i,-,B⟩
    . cases r
    . rw[<- B,qU r.symm])
   go_wp2_with fail;refine(S.rd.take _).mono ?_;rintro j w9 ⟨_,rfl,h9,f9⟩;go_wp2_with fail;go_end0;refine⟨rfl,va,ap,q,q,vc,aq,?_⟩;rw[HF.J.2];exact(S.call h9 f9).fin l
  rcases Q.J with⟨hq,-,D⟩|⟨hq,r,e,i,a0,B⟩;(case' inl=>have P:¬(0:Int)<q:=(by omega);clear hq;have Sx:=S;have K:d.len<=m.len:=(by rw[D];omega);have x:Hid (∃e i,(tj d).2.len<=e/\jT tj e i (tj d).2=dc tj (m.name.2.take dA)):=ak ⟨_,_,ae _,by rw[<- D];rfl⟩;clear D f;have f:=Sx.rd.nh.1;go_wp2_with fail;generalize d=mx at Sx K x);(case' inr=>have P:(0:Int)<q:=(by omega);have ic:d.is (ByteArray.mk #[44])=true:=r.symm;obtain⟨e3,e4,e5⟩:=S.rd.live ic;obtain⟨e,rfl⟩:∃s,e=s+1:=⟨e - 1,by omega⟩;have uA:=ak (qT B ic);clear r B;go_wp2_with fail;refine(S.rd.next e4).mono ?_;rintro j wa ⟨rfl,ha,fa⟩;have Sx:=S.call ha fa;have K:q+d.next.len<=m.len:=(by omega);have aa:=Cn d.next.name.2;have ab:=dI d.next;have x:Hid (∃e i,(tj d.next).2.len<=e/\jT tj e i (tj d.next).2=dc tj (m.name.2.take dA)):=ak ⟨e,_,by show(qJ d.next.name.2).2.len<=e;omega,uA.J⟩;clear f aa ab uA e5;have f:=Sx.rd.nh.1;go_wp2_with fail;generalize d.next=mx at Sx K x);all_goals(have T:q+mx.len<=m.len:=(by omega);clear P;refine(Sx.rd.name).mono ?_;rintro j wb ⟨k,g,rfl,cx,fb⟩;have V:=(Sx.call cx fb).new #[θ k,ι κ g] 34;have Kr:=dI mx;clear f;go_wp2_with fail;refine(V.rd.kind).mono ?_;rintro j wc ⟨u,rfl,Qv,fc⟩;have y:=V.call Qv fc;obtain⟨u0,u1⟩:=jW y.box;have f:=y.rd.nh.1;have aC:=y.rd.lt;have D7:=Cn mx.name.2;have H:=((y.alloc (Vz k g)).drew).lO;obtain⟨xs,own⟩:=H.row;have uj:=ak (World.news_of_block (w:=(wc.alloc (Vz k g)).drew) (B:=wc.heap.size) (au wc (Vz k g)));have vW:=ak (show(wc.alloc (Vz k g)).drew.heap.size=wc.heap.size+1 by show(wc.heap.push _).size=_;rw[dM]);have yl:=ak H.rd.fr.keeps.size;have H1:=ak (show∀O∈[Value.string k,ι κ g],O.oneCell'=true by intro O t;simp at t;rcases t with rfl|rfl<;>rfl);go_wp2_with fail;go_region_law(refine step_append_lies _ rfl (.tmp 34) (.tmp 36) 35 rfl w.heap.size 34 i0 _ 2 24 underlying35 hi lC lI kQ rfl (by decide) _ _ _ (by simp[Act.eval]) own (Ad wc.heap.size 0) 1 1 [θ k,ι κ g] (by simp[Act.eval]) rfl uj.J H1.J (by decide) (by unfold maxLen;omega) (by omega) yl.J (wc.heap.size+1) vW.J ?_;intro s I C nU sC wK _;have z:=H.app nU sC (by rw[vW.J];rcases wK with l|l;exact .inl l;exact .inr (by omega));have an:=z.rd.nh.1;have kf:=z.rd.nh.2.2.2.2 14;clear nU sC wK);all_goals(have W:=z.ahW (ψ (σ (Ad s 0)) (q+1) I);have ao:=W.rd.nh.2.1;have Y:=(W.alloc (ξ #[ι κ u] 3)).lO;obtain⟨ys,R⟩:=Y.row;have xQ:=R;have E:=au (C.setCell (Ad p 14) (ψ (σ (Ad s 0)) (q+1) I)) (ξ #[ι κ u] 3 (0,0));have ad:(C.setCell (Ad p 14) (ψ (σ (Ad s 0)) (q+1) I)).heap.size=C.heap.size:=(by simp[World.setCell]);rw[ad]at E;have WY:=ak (World.news_of_block E);have FE:=z.rd.fr.keeps.size;clear R E;go_wp2_with(at_builtin;refine cJ _ rfl _ _ 36 rfl w.heap.size 3 j0 _ 1 8 underlying36 hj al am U5 rfl (by decide) _ _ _ rfl xQ (Ad C.heap.size 0) 1 1 [ι κ u] rfl rfl WY.J (λO t=>by simp at t;subst t;rfl) (by decide) (by unfold maxLen;omega) (by omega) (by simp[World.setCell]at FE ⊢;omega) ?_);intro g2 vN we Z bY dT;have F:=Y.app Z bY (by simpa[World.setCell]using dT);have a2:=F.rd.nh.2.1;have ax:=F.rd.nh.2.2.2.2 15;have G:=F.apw (ψ (σ (Ad g2 0)) (q+1) vN);have Yy:lenOf (((we.setCell (Ad p 15) (ψ (σ (Ad g2 0)) (q+1) vN)).cell? (Ad p 14)).getD undef)=q+1:=(by rw[G.rd.nh.1];rfl);clear Z bY dT ao an kf;go_wp2_with(go_at_call 35;refine(G.rd.is _).mono ?_;rintro r' w' ⟨rfl,rfl⟩);go_roundw;(case rel=>obtain⟨f',l',Y2,T⟩:=x.J;exact⟨_,_,_,_,q+1,rfl,G.lO.drop,by omega,ak (.inr ⟨by omega,rfl,f',l',Y2,T⟩)⟩);case measure=>rw[Yy,zX];omega))
end
abbrev Sli:=Option Addr×Nat×Nat
structure SV where
 w:ByteArray
 i:Int
 t:ByteArray
 j:Int
 n:Sli
 e:Sli
 l:ByteArray
 li:Int
 r:ByteArray
 ri:Int
 eq:Int
 k:Sli
 d:Sli
 x:Int
def sx(a:SV):Array υ:=#[θ a.w,ι κ a.i,θ a.t,ι κ a.j,.slice a.n.1 a.n.2.1 a.n.2.2,.slice a.e.1 a.e.2.1 a.e.2.2,θ a.l,ι κ a.li,θ a.r,ι κ a.ri,ι κ a.eq,.slice a.k.1 a.k.2.1 a.k.2.2,.slice a.d.1 a.d.2.1 a.d.2.2,ι κ a.x]
theorem cX{w:ω}{b:Nat}{d:Array υ}(f:w.heap[b]?=σ (ξ d i (0,0)))(e:Nat):w.cell? (Ad b e)=d[e]?:=by simp[World.cell?,f]
theorem TX(m:Mode):(m.name.2.take xO).len<=m.len:=ag (take_len m.name.2 xO) (dI m)
section
variable {o:ω×υ} {w w':ω} {p b:Nat} {c:fQ} {v:υ} {m:Mode} {n:Nat} {L:List Item} {X:Item} {a:SV}
theorem St.mapped(S0:St o w p c v m n [.box b (sx a) 95,X])(hd:c.deep=0)(hm:n+m.len<=600)(h1:a.n=(ν,0,0))(h2:a.e=(ν,0,0)):Calls prog 54 #[π (σ (Ad p 0)),π (σ (Ad b 0))] w λB w'=>
 B=τ (.tuple #[])/\∃(s:υ) (f:Nat) (a':SV),St o w' p c s (dc eL m).2 f [.box b (sx a') 95,X]/\n<=f/\f+(dc eL m).2.len<=n+m.len+(dc eL m).2.due:=by
 obtain⟨i0,hi,lC,lI,kQ⟩:=info_parts Tryz.Dr;obtain⟨j0,hj,al,am,U5⟩:=info_parts Tryz.Vu;have SA:St o w p c v m n [.row (ψ ν 0 0) 34 2 0,.row (ψ ν 0 0) 3 1 0,.box b (sx { a with n:=(ν,0,0),e:=(ν,0,0) }) 95,X]:=(by have ab:{ a with n:=(ν,0,0),e:=(ν,0,0) }=a:=(by cases a;cases h1;cases h2;rfl);rw[ab];exact(S0.nil 3 1).nil 34 2);go_in;go_wp2_with fail;go_loopw[4] (λan wr=>∃(C:Bool) (d:Mode) (s:υ) (f:Nat) (g t:Option Addr) (i u q:Nat),an=.bool C/\St o wr p c s d f [.row (ψ g q i) 34 2 q,.row (ψ t q u) 3 1 q,.box b (sx { a with n:=(g,q,i),e:=(t,q,u) }) 95,X]/\q+n<=f/\f+d.len<=n+m.len+d.due/\Hid ((q=0/\C=true/\d=m/\f=n)\/(0<q/\C=d.is qa/\∃e l,d.len<=e/\jT eL e l d=dc eL m))) (λ_ wr=>2000 - lenOf ((wr.cell? (Ad b 4)).getD undef));case atStart=>exact⟨true,_,_,_,_,_,_,_,0,rfl,SA,by omega,by omega,ak (.inl ⟨rfl,rfl,rfl,rfl⟩)⟩
 case round=>
  obtain⟨C,d,s,f,g,t,i,u,q,rfl,S,aC,U,W⟩:=hrel;have c4:wr.cell? (Ad b 4)=σ (ψ g q i):=cX S.drop.drop.box 4;have zX:lenOf ((wr.cell? (Ad b 4)).getD undef)=q:=by rw[c4];rfl
  have av:=uY d;cases C
  .have HF:=ak (show(dc eL m).2=d by
    rcases W.J with⟨-,y,-⟩|⟨-,y,e,l,-,H⟩
    . cases y
    . rw[<- H,qU y.symm])
   go_wp2_with fail;go_end0;refine⟨rfl,s,f,{ a with n:=(g,q,i),e:=(t,q,u) },?_⟩;rw[HF.J];exact⟨S.drop.drop,by omega,U⟩
  rcases W.J with⟨hq,-,I,UJ⟩|⟨hq,y,e,l,ax,H⟩;(case' inl=>have V:¬(0:Int)<q:=(by omega);have Sx:=S;have Q:f+d.len<=n+m.len:=(by rw[I,UJ];omega);have D:Hid ((eL d).2.len<=d.len->∃e l,(eL d).2.len<=e/\jT eL e l (eL d).2=dc eL m):=ak λ_=>⟨_,_,ae _,by rw[<- I];rfl⟩;clear I UJ hq;have aa:wr.cell? (Ad b 4)=σ (ψ g q i):=c4;go_wp2_with fail;generalize d=mx at Sx Q D);(case' inr=>have V:(0:Int)<q:=(by omega);have ic:d.is (ByteArray.mk #[44])=true:=y.symm;obtain⟨e3,e4,e5⟩:=S.rd.live ic;rw[rI e3]at U;obtain⟨e,rfl⟩:∃x,e=x+1:=⟨e - 1,by omega⟩;have uA:=ak (qT H ic);clear y H;go_wp2_with fail;refine(S.rd.next e4).mono ?_;rintro B wa ⟨rfl,ha,fa⟩;have Sx:=S.call ha fa;have Q:f+d.next.len<=n+m.len:=(by omega);have D:Hid ((eL d.next).2.len<=d.next.len->∃e l,(eL d.next).2.len<=e/\jT eL e l (eL d.next).2=dc eL m):=ak λhk=>⟨e,_,by omega,uA.J⟩;have aa:wa.cell? (Ad b 4)=σ (ψ g q i):=cX Sx.drop.drop.box 4;clear uA e5;go_wp2_with fail;generalize d.next=mx at Sx Q D);all_goals(clear V aa;refine(Sx.rd.name).mono ?_;rintro B wb ⟨r,k,rfl,cx,fb⟩;have Sb:=(Sx.call cx fb).new #[θ r,ι κ k] 34;go_wp2_with fail;refine(Sb.rd.take _).mono ?_;rintro B wc ⟨_,rfl,Qv,fc⟩;have KM:=TX mx;have Z:Rd o wc p c s (mx.name.2.take xO) f:=Qv;go_wp2_with fail;refine(Nc o wc p c s (mx.name.2.take xO) f Z (by omega) (by omega)).mono ?_;rintro B j ⟨vd,nd,R,rfl,ac,fd,P⟩;have E:=(Sb.call Z fc).call ac fd;obtain⟨u0,u1⟩:=jW E.box;have c5:j.cell? (Ad b 4)=σ (ψ g q i):=cX E.drop.drop.drop.box 4;have aq:=(cW.mp E.drop.drop.drop.box).1;have ar:=P.bud;have ao:=P.gr;have ap:=uY (mO (lvl 8) (mx.name.2.take xO)).2;have O:=((E.alloc (ξ #[θ r,ι κ k] 34)).drew).lO;obtain⟨xs,own⟩:=O.row;have uk:=ak own;have uj:=ak (World.news_of_block (w:=(j.alloc (ξ #[θ r,ι κ k] 34 (0,0))).drew) (B:=j.heap.size) (au j (ξ #[θ r,ι κ k] 34 (0,0))));have vW:=ak (show(j.alloc (ξ #[θ r,ι κ k] 34 (0,0))).drew.heap.size=j.heap.size+1 by show(j.heap.push _).size=_;rw[dM]);have yl:=ak O.rd.fr.keeps.size;have H1:=ak (show∀T∈[Value.string r,ι κ k],T.oneCell'=true by intro T A;simp at A;rcases A with rfl|rfl<;>rfl);clear own;go_wp2_with fail;go_region_law(refine step_append_lies _ rfl (.tmp 28) (.tmp 30) 35 rfl o.1.heap.size 34 i0 _ 2 24 underlying35 hi lC lI kQ rfl (by decide) _ _ _ (by simp[Act.eval]) uk.J (Ad j.heap.size 0) 1 1 [θ r,ι κ k] (by simp[Act.eval]) rfl uj.J H1.J (by decide) (by unfold maxLen;omega) (by omega) yl.J (j.heap.size+1) vW.J ?_;intro x G z nU sC wK _;have F:=O.app nU sC (by rw[vW.J];rcases wK with h|h;exact .inl h;exact .inr (by omega));have k4:z.cell? (Ad b 4)=σ (ψ g q i):=cX F.drop.drop.box 4;have kf:=bX F.drop.drop.box 4;clear nU sC wK);all_goals(have Se:=F.lO.lO.put 4 (ψ (σ (Ad x 0)) (q+1) G);have k5:(z.setCell (Ad b 4) (ψ (σ (Ad x 0)) (q+1) G)).cell? (Ad b 5)=σ (ψ t q u):=cX Se.box 5;have Sf:=(Se.alloc (ξ #[ι κ R] 3)).lO.lO.lO.lO;obtain⟨ys,Y⟩:=Sf.row;have xQ:=ak Y;have K:=au (z.setCell (Ad b 4) (ψ (σ (Ad x 0)) (q+1) G)) (ξ #[ι κ R] 3 (0,0));have ad:(z.setCell (Ad b 4) (ψ (σ (Ad x 0)) (q+1) G)).heap.size=z.heap.size:=(by simp[World.setCell]);rw[ad]at K;have WY:=ak (World.news_of_block K);have FE:=F.rd.fr.keeps.size;clear Y K;go_wp2_with(at_builtin;refine cJ _ rfl _ _ 36 rfl o.1.heap.size 3 j0 _ 1 8 underlying36 hj al am U5 rfl (by decide) _ _ _ rfl xQ.J (Ad z.heap.size 0) 1 1 [ι κ R] rfl rfl WY.J (λT A=>by simp at A;subst A;rfl) (by decide) (by unfold maxLen;omega) (by omega) (by simp[World.setCell]at FE ⊢;omega) ?_);intro g2 vN wf bS bY dT;have M:=Sf.app bS bY (by simpa[World.setCell]using dT);have q5:wf.cell? (Ad b 5)=σ (ψ t q u):=cX M.lO.box 5;have a0:=bX M.lO.box 5;have N:=M.lO.put 5 (ψ (σ (Ad g2 0)) (q+1) vN);have Yy:lenOf (((wf.setCell (Ad b 5) (ψ (σ (Ad g2 0)) (q+1) vN)).cell? (Ad b 4)).getD undef)=q+1:=(by rw[cX N.box 4];rfl);clear bS bY dT k5 k4 kf;go_wp2_with(go_at_call 35;refine(N.rd.is _).mono ?_;rintro r' w' ⟨rfl,rfl⟩);go_roundw;(case rel=>obtain⟨f',l',Y2,Jf⟩:=D.J (ag P.len KM);exact⟨_,_,_,nd,_,_,_,_,q+1,rfl,N.lO.lO.drop,by omega,by omega,ak (.inr ⟨by omega,rfl,f',l',Y2,Jf⟩)⟩);case measure=>rw[Yy,zX];omega))
end
theorem Tryz.acZ:(prog.info? 4).map (λd=>(d.zero,d.size,d.bytes))=σ (σ (.bool false),1,1):=by kernel_rfl
section
variable {o:ω×υ} {w w':ω} {p b:Nat} {c:fQ} {v:υ} {m:Mode} {n:Nat} {L:List Item} {X:Item} {a:SV}
theorem St.ordered(S0:St o w p c v m n [.box b (sx a) 95,X])(hm:m.len<=600)(h1:a.n=(ν,0,0))(h2:a.d=(ν,0,0)):Calls prog 56 #[π (σ (Ad p 0)),π (σ (Ad b 0))] w λU w'=>
 U=τ (.tuple #[])/\∃a':SV,St o w' p c v (dc ek m).2 n [.box b (sx a') 95,X]:=by
 obtain⟨i0,hi,lC,lI,kQ⟩:=info_parts Tryz.Dr;obtain⟨j0,hj,ab,ac,U5⟩:=info_parts Tryz.acZ;have SA:St o w p c v m n [.row (ψ ν 0 0) 34 2 0,.row (ψ ν 0 0) 4 1 0,.box b (sx { a with n:=(ν,0,0),d:=(ν,0,0) }) 95,X]:=(by have ad:{ a with n:=(ν,0,0),d:=(ν,0,0) }=a:=(by cases a;cases h1;cases h2;rfl);rw[ad];exact(S0.nil 4 1).nil 34 2);go_in;go_wp2_with fail;go_loopw[4] (λao wr=>∃(O:Bool) (d:Mode) (g k:Option Addr) (i l q:Nat),ao=.bool O/\St o wr p c v d n [.row (ψ g q i) 34 2 q,.row (ψ k q l) 4 1 q,.box b (sx { a with n:=(g,q,i),d:=(k,q,l) }) 95,X]/\q+d.len<=m.len+1/\Hid ((q=0/\O=true/\d=m)\/(0<q/\O=d.is qa/\∃e y,d.len<=e/\jT ek e y d=dc ek m))) (λ_ wr=>2000 - lenOf ((wr.cell? (Ad b 4)).getD undef));case atStart=>exact⟨true,_,_,_,_,_,0,rfl,SA,by omega,ak (.inl ⟨rfl,rfl,rfl⟩)⟩
 case round=>
  obtain⟨O,d,g,k,i,l,q,rfl,S,wL,HA⟩:=hrel;have c4:wr.cell? (Ad b 4)=σ (ψ g q i):=cX S.drop.drop.box 4;have zX:lenOf ((wr.cell? (Ad b 4)).getD undef)=q:=by rw[c4];rfl
  cases O
  .have HF:=ak (show(dc ek m).2=d by
    rcases HA.J with⟨-,A,-⟩|⟨-,A,e,y,-,T⟩
    . cases A
    . rw[<- T,qU A.symm])
   go_wp2_with fail;go_end0;refine⟨rfl,{ a with n:=(g,q,i),d:=(k,q,l) },?_⟩;rw[HF.J];exact S.drop.drop
  rcases HA.J with⟨hq,-,Y⟩|⟨hq,A,e,y,aq,T⟩;(case' inl=>have B3:¬(0:Int)<q:=(by omega);have Sx:=S;have hl:q+d.len<=m.len:=(by rw[Y,hq];omega);have C:Hid (∃e y,(ek d).2.len<=e/\jT ek e y (ek d).2=dc ek m):=ak ⟨_,_,ae _,by rw[<- Y];rfl⟩;clear Y hq;have aa:wr.cell? (Ad b 4)=σ (ψ g q i):=c4;go_wp2_with fail;generalize d=mx at Sx hl C);(case' inr=>have B3:(0:Int)<q:=(by omega);have ic:d.is (ByteArray.mk #[44])=true:=A.symm;obtain⟨e3,e4,e5⟩:=S.rd.live ic;obtain⟨e,rfl⟩:∃R,e=R+1:=⟨e - 1,by omega⟩;have uA:=ak (qT T ic);clear A T;go_wp2_with fail;refine(S.rd.next e4).mono ?_;rintro U wa ⟨rfl,ha,fa⟩;have Sx:=S.call ha fa;have hl:q+d.next.len<=m.len:=(by omega);have am:=uy d.next;have C:Hid (∃e y,(ek d.next).2.len<=e/\jT ek e y (ek d.next).2=dc ek m):=ak ⟨e,_,by omega,uA.J⟩;have aa:wa.cell? (Ad b 4)=σ (ψ g q i):=cX Sx.drop.drop.box 4;clear uA e5 am;go_wp2_with fail;generalize d.next=mx at Sx hl C);all_goals(clear B3 aa;refine(Sx.rd.name).mono ?_;rintro U wb ⟨t,s,rfl,cx,fb⟩;have F:=(Sx.call cx fb).new #[θ t,ι κ s] 34;have Kr:=dI mx;obtain⟨j,Z⟩:=nm (wb.alloc (Vz t s));rw[<- Z]at F;obtain⟨u0,u1⟩:=jW F.box;have c5:j.cell? (Ad b 4)=σ (ψ g q i):=cX F.drop.drop.drop.box 4;have ap:=(cW.mp F.drop.drop.drop.box).1;have Sw:=((F.alloc (Vz t s)).drew).lO;obtain⟨xs,own⟩:=Sw.row;have uk:=ak own;have uj:=ak (World.news_of_block (w:=(j.alloc (Vz t s)).drew) (B:=j.heap.size) (au j (Vz t s)));have vW:=ak (show(j.alloc (Vz t s)).drew.heap.size=j.heap.size+1 by show(j.heap.push _).size=_;rw[dM]);have yl:=ak Sw.rd.fr.keeps.size;have H1:=ak (show∀W∈[Value.string t,ι κ s],W.oneCell'=true by intro W r;simp at r;rcases r with rfl|rfl<;>rfl);have Yz:=ak Z;clear own Z;go_wp2_with fail;rw[<- Yz.J];go_region_law(refine step_append_lies _ rfl (.tmp 24) (.tmp 26) 35 rfl o.1.heap.size 34 i0 _ 2 24 underlying35 hi lC lI kQ rfl (by decide) _ _ _ (by simp[Act.eval]) uk.J (Ad j.heap.size 0) 1 1 [θ t,ι κ s] (by simp[Act.eval]) rfl uj.J H1.J (by decide) (by unfold maxLen;omega) (by omega) yl.J (j.heap.size+1) vW.J ?_;intro R eZ we nU sC wK _;have Q:=Sw.app nU sC (by rw[vW.J];rcases wK with h|h;exact .inl h;exact .inr (by omega));have k4:we.cell? (Ad b 4)=σ (ψ g q i):=cX Q.drop.drop.box 4;have kf:=bX Q.drop.drop.box 4;clear nU sC wK);all_goals(have z:=Q.lO.lO.put 4 (ψ (σ (Ad R 0)) (q+1) eZ);generalize we.setCell (Ad b 4) (ψ (σ (Ad R 0)) (q+1) eZ)=wg at z ⊢;clear k4 kf Q;cases idn:mx.name.2.is (ByteArray.mk #[100,111,119,110]);{have f:=z;have k5:wg.cell? (Ad b 12)=σ (ψ k q l):=cX f.box 12;have HS:=ak (show(ek mx).2=mx.name.2 from aE (by show¬mx.name.2.is (ByteArray.mk #[100,111,119,110])=true;rw[idn];decide));have G:=(f.alloc (ξ #[.bool false] 4)).lO.lO.lO.lO;obtain⟨ys,D⟩:=G.row;have xQ:=ak D;have B:=au wg (ξ #[.bool false] 4 (0,0));have WY:=ak (World.news_of_block B);have FE:=f.rd.fr.keeps.size;clear D B;go_wp2_with(first|(go_at_call 35;refine(f.rd.is _).mono ?_;rintro V w' ⟨rfl,rfl⟩)|(at_builtin;refine cJ _ rfl _ _ 93 rfl o.1.heap.size 4 j0 _ 1 1 underlying93 hj ab ac U5 rfl (by decide) _ _ _ rfl xQ.J (Ad wg.heap.size 0) 1 1 [.bool false] rfl rfl WY.J (λW r=>by simp at r;subst r;rfl) (by decide) (by unfold maxLen;omega) (by omega) (by simp at FE ⊢;omega) ?_));intro N P wf I K M;have u:=G.app I K (by simpa using M);have q5:wf.cell? (Ad b 12)=σ (ψ k q l):=cX u.lO.box 12;have an:=bX u.lO.box 12;have x:=u.lO.put 12 (ψ (σ (Ad N 0)) (q+1) P);have Yy:lenOf (((wf.setCell (Ad b 12) (ψ (σ (Ad N 0)) (q+1) P)).cell? (Ad b 4)).getD undef)=q+1:=(by rw[cX x.box 4];rfl);clear I K M k5;go_wp2_with(go_at_call 35;refine(x.rd.is _).mono ?_;rintro V w' ⟨rfl,rfl⟩);go_roundw;(case rel=>obtain⟨f',l',H,E⟩:=C.J;rw[HS.J]at H E;exact⟨_,_,_,_,_,_,q+1,rfl,x.lO.lO.drop,by omega,ak (.inr ⟨by omega,rfl,f',l',H,E⟩)⟩);case measure=>rw[Yy,zX];omega};go_wp2_with(go_at_call 35;refine(z.rd.is _).mono ?_;rintro V w' ⟨rfl,rfl⟩);refine(z.rd.next (z.rd.live idn).2.1).mono ?_;rintro U wh ⟨rfl,al,fh⟩;have f:=z.call al fh;have ar:=dr (m:=mx.name.2);have k5:wh.cell? (Ad b 12)=σ (ψ k q l):=cX f.box 12;have HS:=ak (show(ek mx).2=mx.name.2.next from aF idn);have G:=(f.alloc (ξ #[.bool true] 4)).lO.lO.lO.lO;obtain⟨ys,D⟩:=G.row;have xQ:=ak D;have B:=au wh (ξ #[.bool true] 4 (0,0));have WY:=ak (World.news_of_block B);have FE:=f.rd.fr.keeps.size;clear D B;go_wp2_with(first|(go_at_call 35;refine(f.rd.is _).mono ?_;rintro V w' ⟨rfl,rfl⟩)|(at_builtin;refine cJ _ rfl _ _ 93 rfl o.1.heap.size 4 j0 _ 1 1 underlying93 hj ab ac U5 rfl (by decide) _ _ _ rfl xQ.J (Ad wh.heap.size 0) 1 1 [.bool true] rfl rfl WY.J (λW r=>by simp at r;subst r;rfl) (by decide) (by unfold maxLen;omega) (by omega) (by simp at FE ⊢;omega) ?_));intro N P wf I K M;have u:=G.app I K (by simpa using M);have q5:wf.cell? (Ad b 12)=σ (ψ k q l):=cX u.lO.box 12;have an:=bX u.lO.box 12;have x:=u.lO.put 12 (ψ (σ (Ad N 0)) (q+1) P);have Yy:lenOf (((wf.setCell (Ad b 12) (ψ (σ (Ad N 0)) (q+1) P)).cell? (Ad b 4)).getD undef)=q+1:=(by rw[cX x.box 4];rfl);clear I K M k5;go_wp2_with(go_at_call 35;refine(x.rd.is _).mono ?_;rintro V w' ⟨rfl,rfl⟩);go_roundw;(case rel=>obtain⟨f',l',H,E⟩:=C.J;rw[HS.J]at H E;exact⟨_,_,_,_,_,_,q+1,rfl,x.lO.lO.drop,by omega,ak (.inr ⟨by omega,rfl,f',l',H,E⟩)⟩);case measure=>rw[Yy,zX];omega))
end
theorem Tryz.agj:(prog.info? 124).map (λd=>(d.zero,d.size,d.bytes))=σ (σ (χ #[ι κ 0,ι κ 0,.bool false,ι κ 0,θ ByteArray.empty]),5,48):=by kernel_rfl
theorem YA(w:ω)(a b c d e:Addr)(f g i j k:υ):(((((w.setCell a f).setCell b g).setCell c i).setCell d j).setCell e k).heap.size=w.heap.size:=by simp[World.setCell]
section
variable {o:ω×υ} {w w':ω} {p:Nat} {c:fQ} {v:υ} {m:Mode} {n:Nat}
theorem Rd.row(Q:Rd o w p c v m n)(hm:m.len<=600):Calls prog 38 #[π (σ (Ad p 0))] w λt w'=>
 ∃(C:Nat) (a:Option Addr) (q al:Nat),t=τ (χ #[ι κ C,ψ a q al])/\Rd o w' p c v (j6 m).2 n/\Fq p v v w w':=by
 obtain⟨i0,hi,lC,lI,kQ⟩:=info_parts Tryz.agj;have cL:=Q.lt;have Y:=Q.start.new #[ι κ 0,ψ ν 0 0] 89;go_in;go_wp2_with fail;refine(Y.rd.take _).mono ?_;rintro t u ⟨C,rfl,h1,f1⟩;have I:=(Y.call h1 f1).new #[ι κ C,ψ ν 0 0] 89;have ar:=take_len m dA;go_wp2_with fail;refine(I.rd.value).mono ?_;rintro t d ⟨j,k,l,r,s,rfl,R,O⟩;have FJ:=zM (m.take dA);have Z:=(I.call R O).new #[ι κ j,ι κ k,.bool l,ι κ r,θ s] 124;obtain⟨d0,d1⟩:=jW (I.call R O).box;have f:=(Z.nil 124 5).alloc (VA j k l r s);obtain⟨xs,own⟩:=f.row;have HO:=own;have VQ:=ak (World.news_of_block (au (d.alloc (VA j k l r s)) (VA j k l r s)));rw[show(d.alloc (VA j k l r s)).heap.size=d.heap.size+1 from by simp]at VQ;have hk:=Z.rd.fr.keeps.size;have jF:=(I.call R O).box;have an:=(cW.mp jF).1;clear own jF;go_wp2_with(at_builtin;refine cJ _ rfl _ _ 87 rfl w.heap.size 124 i0 _ 5 48 underlying87 hi lC lI kQ rfl (by decide) _ _ _ rfl HO (Ad (d.heap.size+1) 0) 1 1 [ι κ j,ι κ k,.bool l,ι κ r,θ s] rfl rfl VQ.J ?c2 (by decide) ?c3 ?c4 ?c5 ?_);case c2=>intro U B;simp at B;rcases B with rfl|rfl|rfl|rfl|rfl<;>rfl
 case c3=>unfold maxLen;simp
 case c4=>simp
 case c5=>simp at hk ⊢;omega
 intro ab ap w5 y z A;have M:=f.app y z (by simpa using A);obtain⟨k0,k1⟩:=jW M.lO.lO.box;have k2:=bX M.lO.lO.box 1;have S6:=ak λU=>M.lO.lO.put 1 U;clear y z A d0 d1;go_wp2_with fail;clear k0 k1 k2;go_loopw[] (λwr=>∃(e:Mode) (T b1 b2 c1 c2 c3 c4 c5:υ) (ac:List Al) (g q:Nat),St (w,v) wr p c v e n [.box u.heap.size #[ι κ C,T] 89,.box w.heap.size #[b1,b2] 89,.row T 124 5 q,.box d.heap.size #[c1,c2,c3,c4,c5] 124]/\e.len<=g/\q+e.len<=m.len+1/\Hid (jT jk g ac e=dc jk (m.take dA))) (λwr=>2000 - lenOf ((wr.cell? (Ad u.heap.size 1)).getD undef));case atStart=>exact⟨(jk (m.take dA)).2,_,_,_,_,_,_,_,_,[(jk (m.take dA)).1],(jk (m.take dA)).2.len,0+1,S6.J _,ae _,by omega,ak rfl⟩
 case round=>obtain⟨e,T,b1,b2,c1,c2,c3,c4,c5,ac,g,q,S,aq,wL,W⟩:=hrel;obtain⟨va,vc,rfl⟩:=S.lO.lO.slice;have zX:lenOf ((wr.cell? (Ad u.heap.size 1)).getD undef)=q:=(by rw[(jW S.box).2];rfl);cases ic:e.is (ByteArray.mk #[44]);{have HF:=ak ((qU (show e.is qa=false from ic)).symm.trans W.J);go_wp2_with(go_at_call 35;refine(S.rd.is _).mono ?_;rintro r' w' ⟨rfl,rfl⟩);refine(S.rd.take _).mono ?_;rintro t w3 ⟨_,rfl,K,P⟩;have f:=S.call K P;obtain⟨u0,u1⟩:=jW f.box;obtain⟨y0,y1⟩:=jW f.drop.box;have z0:=bX f.drop.box 0;have z1:=bX f.drop.box 1;go_wp2_with fail;(try simp only[Exit.inBlock,Exit.then]);refine aB (v:=_) (by simp[results,results38,go_sem,y0,y1];rfl) rfl ?_;refine⟨C,va,q,vc,rfl,?_⟩;rw[show(j6 m).2=e.take fG by show(dc jk (m.take dA)).2.take fG=_;rw[<- HF.J]];exact((f.lO.put 0 _).put 1 _).fin Q};obtain⟨e3,e4,e5⟩:=S.rd.live ic;obtain⟨g,rfl⟩:∃ab,g=ab+1:=⟨g - 1,by omega⟩;have uA:=ak (qT W.J (show e.is qa=true from ic));go_wp2_with(go_at_call 35;refine(S.rd.is _).mono ?_;rintro r' w' ⟨rfl,rfl⟩);refine(S.rd.next e4).mono ?_;rintro t w3 ⟨rfl,K,P⟩;go_wp2_with fail;refine(K.value).mono ?_;rintro t w4 ⟨D,E,F,G,H,rfl,h4,f4⟩;have i:=(S.call K P).call h4 f4;obtain⟨u0,u1⟩:=jW i.box;obtain⟨y0,y1,y2,y3,y4⟩:=uP i.lO.lO.lO.box;have x:=bX i.lO.lO.lO.box;have z0:=x 0;have z1:=x 1;have z2:=x 2;have z3:=x 3;have z4:=x 4;have ao:=zM e.next;have S7:=(((((i.lO.lO.lO.put 0 (ι κ D)).put 1 (ι κ E)).put 2 (.bool F)).put 3 (ι κ G)).put 4 (θ H)).alloc (VA D E F G H);obtain⟨xs,own⟩:=S7.lO.lO.lO.row;have xQ:=own;have aa:=ak (World.news_of_block (au (((((w4.setCell (Ad d.heap.size 0) (ι κ D)).setCell (Ad d.heap.size 1) (ι κ E)).setCell (Ad d.heap.size 2) (.bool F)).setCell (Ad d.heap.size 3) (ι κ G)).setCell (Ad d.heap.size 4) (θ H)) (VA D E F G H)));rw[YA]at aa;have wF:=i.rd.fr.keeps.size;have V:=(bk.mp i.ap).1 _ (.tail _ (.tail _ (.head _))) _ rfl;have Dv:u.heap.size≠d.heap.size:=λad=>V (bn σ ad.symm);clear own x V;go_wp2_with(at_builtin;refine cJ _ rfl _ _ 87 rfl w.heap.size 124 i0 _ 5 48 underlying87 hi lC lI kQ rfl (by decide) _ _ _ rfl xQ (Ad w4.heap.size 0) 1 1 [ι κ D,ι κ E,.bool F,ι κ G,θ H] rfl rfl aa.J ?c2 (by decide) ?c3 ?c4 ?c5 ?_);(case c2=>intro U B;simp at B;rcases B with rfl|rfl|rfl|rfl|rfl<;>rfl);(case c3=>unfold maxLen;omega);(case c4=>omega);(case c5=>simp[World.setCell]at wF ⊢;omega);intro g2 vN w6 y z A;have N:=S7.lO.lO.lO.app y z (by simpa[World.setCell]using A);obtain⟨k0,k1⟩:=jW N.lO.lO.box;have k2:=bX N.lO.lO.box 1;have S9:=N.lO.lO.put 1 (ψ (σ (Ad g2 0)) (q+1) vN);have am:lenOf (((w6.setCell (Ad u.heap.size 1) (ψ (σ (Ad g2 0)) (q+1) vN)).cell? (Ad u.heap.size 1)).getD undef)=q+1:=(by rw[(jW S9.box).2];rfl);clear y z A;go_wp2_with fail;go_roundw;(case rel=>exact⟨_,_,_,_,_,_,_,_,_,_,g,_,S9,by omega,by omega,uA⟩);case measure=>rw[am,zX];omega
end
structure Qh (c:fQ):Prop where
 names:c.names=ψ ν 0 0
 kinds:c.kinds=ψ ν 0 0
 rows:c.rows=ψ ν 0 0
 eQ:c.eQ=ψ ν 0 0
 deep:c.deep=0
def Slc(u:υ):Prop:=∃a q k,u=ψ a q k
structure Shaped (c:fQ):Prop where
 names:Slc c.names
 kinds:Slc c.kinds
 rows:Slc c.rows
 eQ:Slc c.eQ
theorem Qh.shaped{c:fQ}(d:Qh c):Shaped c:=⟨⟨_,_,_,d.names⟩,⟨_,_,_,d.kinds⟩,⟨_,_,_,d.rows⟩,⟨_,_,_,d.eQ⟩⟩
def T0(o:ω×υ)(w:ω)(p:Nat)(v:υ)(m:Mode)(t:ByteArray)(r:Ending)(w':ω):Prop:=
 r=τ (.tuple #[])/\∃(c':fQ) (v':υ) (n':Nat),(Rd o w' p c' v' (cD m).2 n'/\Fq p v v' w w')/\c'.word=θ t/\Shaped c'
section
variable {o:ω×υ} {w w':ω} {p:Nat} {c:fQ} {v:υ} {m:Mode} {n:Nat}
theorem Rd.vB(l:Rd o w p c v m n)(hd:c.deep=0)(hm:n+m.len<=600):Calls prog 39 #[π (σ ⟨p,0,ν⟩)] w λd w'=>
 d=τ (.tuple #[])/\∃(D:υ) (W:Nat) (a:Option Addr) (q g:Nat),Rd o w' p { c with names:=ψ a q g } D (mO (lvl 8) (((jK ((m.name.2.take yr).name.2.take dA)).2.take fG).take kH)).2 W/\Fq p v D w w':=by have l1:=dI m;have l2:=take_len m.name.2 yr;have l3:=dI (m.name.2.take yr);have l4:=take_len (m.name.2.take yr).name.2 dA;have l5:=DL ((m.name.2.take yr).name.2.take dA);have l6:=take_len (jK ((m.name.2.take yr).name.2.take dA)).2 fG;have l7:=take_len ((jK ((m.name.2.take yr).name.2.take dA)).2.take fG) kH;go_in;go_wp2_with fail;refine(l.start.rd.name).mono ?_;rintro d w1 ⟨Z,T,rfl,i,G⟩;obtain⟨_,_,_,_,_,_,_,_,e,k,_⟩:=i.vw;have f:=i.nh.2.2.2.2 12;have t:=i.nh.2.2.2.2 13;have u:=(l.start.call i G).ahV Z T;go_wp2_with fail;refine(u.rd.take _).mono ?_;rintro d w2 ⟨_,rfl,z,H⟩;clear e k f t;go_wp2_with fail;refine(z.name).mono ?_;rintro d w3 ⟨s3,U,rfl,j,I⟩;obtain⟨_,_,_,_,_,_,e,k,_⟩:=j.vw;have f:=j.nh.2.2.2.2 10;have t:=j.nh.2.2.2.2 11;have x:=((u.call z H).call j I).Qf s3 U;go_wp2_with fail;refine(x.rd.take _).mono ?_;rintro d w4 ⟨_,rfl,Q,K⟩;clear e k f t;have A:Rd (w,v) w4 p c v ((m.name.2.take yr).name.2.take dA) n:=Q;go_wp2_with fail;refine(A.names (by omega)).mono ?_;rintro d w5 ⟨a,q,g,rfl,r,M⟩;have e:=r.nh.1;have f:=r.nh.2.2.2.2 14;have y:=((x.call A K).call r M).ahW (ψ a q g);go_wp2_with fail;refine(y.rd.take _).mono ?_;rintro d w6 ⟨_,rfl,B,N⟩;clear e f;go_wp2_with fail;refine(B.take _).mono ?_;rintro d E ⟨_,rfl,R,O⟩;have C:Rd (w,v) E p { c with names:=ψ a q g } v (((jK ((m.name.2.take yr).name.2.take dA)).2.take fG).take kH) n:=R;go_wp2_with fail;refine(Nc _ E p _ v _ n C (by show c.deep+8=8;omega) (by omega)).mono ?_;rintro d w8 ⟨v8,Y,V,rfl,s,P,b8⟩;obtain⟨_,_,_,_,_,_,_,_,_,_,e,_⟩:=s.vw;have f:=s.nh.2.2.2.2 17;have F:=(((y.call B N).call C O).call s P).apy V;go_wp2_with fail;go_end0;exact⟨rfl,v8,Y,a,q,g,F.fin l⟩
end
