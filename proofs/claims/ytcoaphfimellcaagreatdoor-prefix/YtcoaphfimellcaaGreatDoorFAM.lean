import Derived.Test.YtcoaphfimellcaaGreatDoorFAH
set_option maxHeartbeats 0
set_option maxRecDepth 100000
namespace Go.Proofs.YtcoaphfimellcaaGreatDoor
open Go.RowKit
open _root_.Go.Proofs.Tryz
open Option renaming some→σ,none→ν
open Go.IntKind renaming i64→κ
open Go.Obj renaming cells→ξ
open Go renaming World→ω,Value→υ
open Go.Value renaming int→ι,string→θ,slice→ψ,pointer→π,agg→χ
variable{x:ByteArray}{l:Nat}{i:TypeId}
def sy(t:ByteArray)(i:Int):SV:=⟨t,i,⟨#[]⟩,0,(ν,0,0),(ν,0,0),⟨#[]⟩,0,⟨#[]⟩,0,0,(ν,0,0),(ν,0,0),0⟩
abbrev aW:ByteArray:=⟨#[119,104,101,114,101]⟩
abbrev aM:ByteArray:=⟨#[109,97,112]⟩
abbrev aJ:ByteArray:=⟨#[106,111,105,110]⟩
abbrev aG:ByteArray:=⟨#[103,114,111,117,112]⟩
abbrev aO:ByteArray:=⟨#[111,114,100,101,114]⟩
theorem yI{w:ω}{a:SV}(b:w.heap[l]?=σ (ξ (tE a) i (0,0))):w.cell? ⟨l,0,ν⟩=σ (θ a.w)/\w.cell? ⟨l,1,ν⟩=σ (ι κ a.i)/\w.cell? ⟨l,2,ν⟩=σ (θ a.t)/\w.cell? ⟨l,3,ν⟩=σ (ι κ a.j)/\w.cell? ⟨l,4,ν⟩=σ (.slice a.n.1 a.n.2.1 a.n.2.2)/\w.cell? ⟨l,5,ν⟩=σ (.slice a.e.1 a.e.2.1 a.e.2.2)/\w.cell? ⟨l,6,ν⟩=σ (θ a.l)/\w.cell? ⟨l,7,ν⟩=σ (ι κ a.li)/\w.cell? ⟨l,8,ν⟩=σ (θ a.r)/\w.cell? ⟨l,9,ν⟩=σ (ι κ a.ri)/\w.cell? ⟨l,10,ν⟩=σ (ι κ a.eq)/\w.cell? ⟨l,11,ν⟩=σ (.slice a.k.1 a.k.2.1 a.k.2.2)/\w.cell? ⟨l,12,ν⟩=σ (.slice a.d.1 a.d.2.1 a.d.2.2)/\w.cell? ⟨l,13,ν⟩=σ (ι κ a.x):=
 ⟨dp b 0,dp b 1,dp b 2,dp b 3,dp b 4,dp b 5,dp b 6,dp b 7,dp b 8,dp b 9,dp b 10,dp b 11,dp b 12,dp b 13⟩
theorem or5(a b c d e:Bool):(a=false/\b=false/\c=false/\d=false/\e=false)\/a=true\/(a=false/\b=true)\/(a=false/\b=false/\c=true)\/(a=false/\b=false/\c=false/\d=true)\/(a=false/\b=false/\c=false/\d=false/\e=true):=by cases a<;>cases b<;>cases c<;>cases d<;>cases e<;>simp
section
variable {m:Mode}
theorem aiR(i:m.is aW=false)(j:m.is aM=false)(k:m.is aJ=false)(r:m.is aG=false)(s:m.is aO=false){t:Int}(b:(m.take dJ).alive->nO l x t (m.take dJ).tk) :
 (((l:Int)==110)=true/\(cH m).2=(m.take dJ).next/\∀x e,m.take dJ=.live x e->x.k.ends=false)\/(((l:Int)==110)=false/\(cH m).2=(m.take dJ).wrong 2):=by
 have f:cH m=(match(m.take dJ).tk with
  |.num n=>({ bare dJ m.place with n:=n },(m.take dJ).next)
  |_=>(bare dJ m.place,(m.take dJ).wrong 2)):=by
  unfold cH;rw[show m.is dR=_ from i,show m.is qD=_ from j,show m.is tK=_ from k,show m.is pW=_ from r,show m.is qE=_ from s]<;>rfl
 rw[f];generalize m.take dJ=m1 at b;cases m1 with|dead a y=>(by_cases d:(l:Int)=110;{exact .inl ⟨by rw[dO];exact d,rfl,λ_ _ a=>by cases a⟩};exact .inr ⟨by rw[aK];exact d,rfl⟩)|live tk e=>have g:=b trivial;obtain⟨u,z⟩:=tk;cases u<;>simp only[nO,Mode.tk]at g;(case num=>exact .inl ⟨by rw[dO];omega,rfl,λ_ _ a=>by cases a;rfl⟩);all_goals exact .inr ⟨by rw[aK];omega,rfl⟩
end
section
variable {o:ω×υ} {w w':ω} {p:Nat} {c:gO} {v:υ} {m:Mode} {n:Nat}
def SH(o:ω×υ)(w:ω)(p:Nat)(c:gO)(v:υ)(m:Mode)(n:Nat)(r:Ending)(w':ω):Prop:=
 ∃(a:SV) (v':υ) (n':Nat),r=.returned (.agg (tE a))/\(Rd o w' p c v' (cH m).2 n'/\Fq p v v' w w')/\n<=n'/\n'+(cH m).2.len<=n+m.len+(cH m).2.due/\(cH m).2.len<=m.len
theorem afk(A:Rd o w p c v m n)(hd:c.deep=0)(hm:n+m.len<=600)(b:m.is aW=true\/m.is aW=false/\m.is aM=true\/m.is aW=false/\m.is aM=false/\m.is aJ=true):Calls prog 41 #[π (σ ⟨p,0,ν⟩)] w (SH o w p c v m n):=by
 obtain⟨a4,i,g,a3,c2,c3,c4,c5,hi,_,_,_⟩:=A.tok;have cQ:=A.lt;go_in;go_wp2_with fail;go_region;go_wp2_with fail;generalize hW:World.drew _=W;have S:St (w,v) W p c v m n [.box (w.heap.size+1) (tE (sy i g)) 95,.box w.heap.size (tE (sy ⟨#[]⟩ 0)) 95]:=(by rw[<- hW];exact(A.start.wF _ _ _ _).drew);clear hW c2 c3 c4 c5;have ad:=((S.ok _ (.head _)).2 _ rfl).1;have ar:=λal=>ad (Eq.symm al);have a2:=dD (m:=m);have a1:=wm m;rcases b with b|⟨O,b⟩|⟨O,i1,b⟩
 all_goals
  go_wp2_with(go_at_call 35;refine(S.rd.is _).mono ?_;rintro r' w' ⟨rfl,rfl⟩);refine(S.rd.next (S.rd.live b).2.1).mono ?_;rintro e wa ⟨rfl,N,fa⟩;have I:=S.call N fa;go_wp2_with fail;first
   | (refine(Pe _ wa p c v m.next n N (by omega) (by omega)).mono ?_
      rintro e j ⟨vb,E,kb,rfl,L,M,K⟩;have F:=au (show(cH m).2=(fE (lvl 8) m.next).2 by unfold cH;rw[show m.is dR=_ from b]<;>rfl);have x:=(I.call L M);have a:=x.alloc (ξ #[ι κ kb] 3);obtain⟨f,d⟩:=nm ({ sy i g with e:=(σ ⟨j.heap.size,0,ν⟩,1,1) });have z:St (w,v) ((j.alloc (ξ #[ι κ kb] 3)).setCell ⟨w.heap.size+1,5,ν⟩ (ψ (σ ⟨j.heap.size,0,ν⟩) 1 1)) p c vb (fE (lvl 8) m.next).2 E [.box (w.heap.size+1) (tE f) 95,.box w.heap.size (tE (sy ⟨#[]⟩ 0)) 95]:=by rw[d];exact a.put 5 (ψ (σ ⟨j.heap.size,0,ν⟩) 1 1)
      have G:=au d;clear d;have ap:=K.len;have ac:=K.bud;have D:=gJ K.gr;have B:(fE (lvl 8) m.next).2.len<=m.len:=by omega
      have t:E+(fE (lvl 8) m.next).2.len<=n+m.len+(fE (lvl 8) m.next).2.due:=by omega)
   | (refine(I.mapped hd (by omega) rfl rfl).mono ?_
      rintro e j ⟨rfl,vb,E,f,z,D,ac⟩;have F:=au (show(cH m).2=(dk fA m.next).2 by unfold cH;rw[show m.is dR=_ from O,show m.is qD=_ from b]<;>rfl);have a:=z;have G:=au (Eq.refl f);have ap:(dk fA m.next).2.len<=m.next.len:=by
       by_cases hx:(dk fA m.next).2.alive
       . rw[sG hx]at ac;omega
       . rw[(pG hx).1];omega
      have B:(dk fA m.next).2.len<=m.len:=by omega
      have t:E+(dk fA m.next).2.len<=n+m.len+(dk fA m.next).2.due:=by omega)
   | (refine(N.name).mono ?_
      rintro e j ⟨r,k,rfl,L,M⟩;have F:=au (show(cH m).2=((m.next.name.2.take zj).name.2.take wJ).name.2 by unfold cH;rw[show m.is dR=_ from O,show m.is qD=_ from i1,show m.is tK=_ from b]<;>rfl);have u:=I.call L M;obtain⟨_,_,e2,e3,_⟩:=yI u.box;have f2:=bZ u.box 2;have f3:=bZ u.box 3;have x:=(u.put 2 (θ r)).put 3 (ι κ k);go_wp2_with fail;refine(x.rd.take _).mono ?_;rintro e wc ⟨_,rfl,R,fc⟩;go_wp2_with fail;refine(R.name).mono ?_;rintro e wd ⟨s,l,rfl,ao,fd⟩;have y:St (w,v) wd p c v (m.next.name.2.take zj).name.2 n [.box (w.heap.size+1) (tE { sy i g with t:=r,j:=k }) 95,.box w.heap.size (tE (sy ⟨#[]⟩ 0)) 95]:=(x.call R fc).call ao fd;obtain⟨_,_,_,_,_,_,e6,e7,_⟩:=yI y.box;have f6:=bZ y.box 6;have f7:=bZ y.box 7;have T:St (w,v) ((wd.setCell ⟨w.heap.size+1,6,ν⟩ (θ s)).setCell ⟨w.heap.size+1,7,ν⟩ (ι κ l)) p c v (m.next.name.2.take zj).name.2 n [.box (w.heap.size+1) (tE { sy i g with t:=r,j:=k,l:=s,li:=l }) 95,.box w.heap.size (tE (sy ⟨#[]⟩ 0)) 95]:=(y.put 6 (θ s)).put 7 (ι κ l);clear e2 e3 f2 f3;go_wp2_with fail;refine(T.rd.take _).mono ?_;rintro e we ⟨C,rfl,PS,fe⟩;have H:=T.call PS fe;have am:we.cell? ⟨w.heap.size+1,10,ν⟩=σ (ι κ 0):=dp H.box 10;have an:=bZ H.box 10;have U:St (w,v) (we.setCell ⟨w.heap.size+1,10,ν⟩ (ι κ C)) p c v ((m.next.name.2.take zj).name.2.take wJ) n [.box (w.heap.size+1) (tE { sy i g with t:=r,j:=k,l:=s,li:=l,eq:=C }) 95,.box w.heap.size (tE (sy ⟨#[]⟩ 0)) 95]:=H.put 10 (ι κ C);clear e6 e7 f6 f7;go_wp2_with fail;refine(U.rd.name).mono ?_;rintro e wf ⟨Q,P,rfl,Sr,ff⟩;have a:=U.call Sr ff;obtain⟨f,d⟩:=nm ({ sy i g with t:=r,j:=k,l:=s,li:=l,eq:=C,r:=Q,ri:=P });have z:St (w,v) ((wf.setCell ⟨w.heap.size+1,8,ν⟩ (θ Q)).setCell ⟨w.heap.size+1,9,ν⟩ (ι κ P)) p c v ((m.next.name.2.take zj).name.2.take wJ).name.2 n [.box (w.heap.size+1) (tE f) 95,.box w.heap.size (tE (sy ⟨#[]⟩ 0)) 95]:=by rw[d];exact(a.put 8 (θ Q)).put 9 (ι κ P)
      have G:=au d;clear d am an;have l1:=dW m.next;have l2:=take_len m.next.name.2 zj;have l3:=dW (m.next.name.2.take zj);have l4:=take_len (m.next.name.2.take zj).name.2 wJ;have l5:=dW ((m.next.name.2.take zj).name.2.take wJ);have D:=ae n;have B:((m.next.name.2.take zj).name.2.take wJ).name.2.len<=m.len:=by omega
      have t:n+((m.next.name.2.take zj).name.2.take wJ).name.2.len<=n+m.len+((m.next.name.2.take zj).name.2.take wJ).name.2.due:=by omega
      clear l1 l2 l3 l4 l5)
 all_goals obtain⟨g0,g1,g2,g3,g4,g5,g6,g7,g8,g9,av,ax,aC,a0⟩:=yI a.box;obtain⟨V,X,d2,d3,d4,d5,d6,d7,d8,d9,Y,Z,aa,ab⟩:=yI a.drop.box;have a8:=bZ a.drop.box;have a5:=bZ a.box;simp only[sy]at V X d2 d3 d4 d5 d6 d7 d8 d9 Y Z aa ab;have HB:=au (And.intro D (And.intro t B));clear D t B;go_wp2_with fail;(try simp only[Exit.inBlock,Exit.then]);refine aD (v:=_) (by simp[results,results41,go_sem,V,X,d2,d3,d4,d5,d6,d7,d8,d9,Y,Z,aa,ab];rfl) rfl ?_;unfold SH;rw[F.J];refine⟨f,_,_,?_,((((((((((((((z.mr.put 0 _).put 1 _).put 2 _).put 3 _).put 4 _).put 5 _).put 6 _).put 7 _).put 8 _).put 9 _).put 10 _).put 11 _).put 12 _).put 13 _).fin A,HB.J⟩;first|rfl|(rw[G.J];rfl)
theorem afl(t:Rd o w p c v m n)(hm:n+m.len<=600)(E:m.is aW=false)(F:m.is aM=false)(G:m.is aJ=false):Calls prog 41 #[π (σ ⟨p,0,ν⟩)] w (SH o w p c v m n):=by
 obtain⟨a3,L,D,a2,c2,c3,c4,c5,hi,_,_,_⟩:=t.tok;have cQ:=t.lt;go_in;go_wp2_with fail;go_region;go_wp2_with fail;generalize hW:World.drew _=W;have S:St (w,v) W p c v m n [.box (w.heap.size+1) (tE (sy L D)) 95,.box w.heap.size (tE (sy ⟨#[]⟩ 0)) 95]:=(by rw[<- hW];exact(t.start.wF _ _ _ _).drew);clear hW c2 c3 c4 c5;have ad:=((S.ok _ (.head _)).2 _ rfl).1;have ao:=λal=>ad (Eq.symm al);have a0:=dD (m:=m);have aC:=wm m;rcases(show(m.is aG=false/\m.is aO=false)\/m.is aG=true\/m.is aG=false/\m.is aO=true by cases m.is aG<;>cases m.is aO<;>simp)with⟨H,i4⟩|y|⟨H,y⟩
 all_goals
  go_wp2_with(go_at_call 35;refine(S.rd.is _).mono ?_;rintro r' w' ⟨rfl,rfl⟩);first
   | (refine(S.rd.take _).mono ?_
      rintro e x ⟨_,rfl,aa,A⟩;have u:Rd (w,v) x p c v (m.take dJ) n:=aa;have z:=S.call u A;obtain⟨k',t',i',I,O,P,Q,R,KO,_,am,_⟩:=u.tok;have ac:x.cell? ⟨w.heap.size+1,13,ν⟩=σ (ι κ 0):=dp z.box 13;have qf:=bZ z.box 13;have g:St (w,v) (x.setCell ⟨w.heap.size+1,13,ν⟩ (ι κ I)) p c v (m.take dJ) n [.box (w.heap.size+1) (tE { sy L D with x:=I }) 95,.box w.heap.size (tE (sy ⟨#[]⟩ 0)) 95]:=z.put 13 _;have a1:=take_len m dJ;clear aa;obtain⟨d,ab⟩:=nm ({ sy L D with x:=I });rw[<- ab]at g;clear ab;rcases aiR E F G H i4 am.J with⟨K,j,he⟩|⟨K,j⟩
      case' inl=>
       have k2:((k':Int) != 110)=false:=by rw[bne,K];rfl
       have l:=au j;clear j;go_wp2_with fail;refine(g.rd.next he).mono ?_;rintro e M ⟨rfl,s,B⟩;have a:=g.call s B;have b:=a;have r:=au (Eq.refl d);have C:=dD (m:=m.take dJ);have k:=ae n;have i:(m.take dJ).next.len<=m.len:=by omega
       have f:n+(m.take dJ).next.len<=n+m.len+(m.take dJ).next.due:=by omega
       clear O P Q R ac qf
      case' inr=>
       have k2:((k':Int) != 110)=true:=by rw[bne,K];rfl
       have l:=au (j.trans (C8 (m.take dJ) 2).symm);clear j;go_wp2_with fail;refine(g.rd.fail 2 i' (by decide) KO).mono ?_;rintro e M ⟨rfl,s,B⟩;go_wp2_with fail;refine(s.next (Fz (dz (m.take dJ) 2))).mono ?_;rintro e wc ⟨rfl,Px,fc⟩;have a:=(g.call s B).call Px fc;have b:=a;have r:=au (Eq.refl d);have C:=dD (m:=(m.take dJ).wrong 2);have an:=(pG (dz (m.take dJ) 2)).1;have k:=ae n;have i:((m.take dJ).wrong 2).next.len<=m.len:=by omega
       have f:n+((m.take dJ).wrong 2).next.len<=n+m.len+((m.take dJ).wrong 2).next.due:=by omega
       clear O P Q R ac qf)
   | (refine(S.rd.next (S.rd.live y).2.1).mono ?_
      rintro e x ⟨rfl,u,A⟩;have N:=S.call u A;go_wp2_with fail
      first
       | (refine(N.grouped (by omega) rfl).mono ?_
          rintro e M ⟨rfl,d,a⟩;have l:=au (show(cH m).2=(dk jX ((AF m.next).2.take iR)).2 by unfold cH;rw[show m.is dR=_ from E,show m.is qD=_ from F,show m.is tK=_ from G,show m.is pW=_ from y]<;>rfl);have b:=a;have r:=au (Eq.refl d);have k:=ae n;have C:(dk jX ((AF m.next).2.take iR)).2.len<=m.next.len:=by
           refine ag (oP Km _) (ag (take_len _ _) ?_);unfold AF;split
           . exact EK _
           . exact ae _
          have i:(dk jX ((AF m.next).2.take iR)).2.len<=m.len:=by omega
          have f:n+(dk jX ((AF m.next).2.take iR)).2.len<=n+m.len+(dk jX ((AF m.next).2.take iR)).2.due:=by omega)
       | (refine(N.ordered (by omega) rfl rfl).mono ?_
          rintro e M ⟨rfl,d,a⟩;have l:=au (show(cH m).2=(dk eC m.next).2 by unfold cH;rw[show m.is dR=_ from E,show m.is qD=_ from F,show m.is tK=_ from G,show m.is pW=_ from H,show m.is qE=_ from y]<;>rfl);have b:=a;have r:=au (Eq.refl d);have k:=ae n;have C:=oP vF m.next;have i:(dk eC m.next).2.len<=m.len:=by omega
          have f:n+(dk eC m.next).2.len<=n+m.len+(dk eC m.next).2.due:=by omega))
 all_goals obtain⟨g0,g1,g2,g3,g4,g5,g6,g7,g8,g9,ap,ar,av,ax⟩:=yI b.box;obtain⟨T,U,d2,d3,d4,d5,d6,d7,d8,d9,V,X,Y,Z⟩:=yI b.drop.box;have a5:=bZ b.drop.box;have a4:=bZ b.box;simp only[sy]at T U d2 d3 d4 d5 d6 d7 d8 d9 V X Y Z;have HB:=au (And.intro k (And.intro f i));clear k f i;go_wp2_with fail;(try simp only[Exit.inBlock,Exit.then]);refine aD (v:=_) (by simp[results,results41,go_sem,T,U,d2,d3,d4,d5,d6,d7,d8,d9,V,X,Y,Z];rfl) rfl ?_;unfold SH;rw[l.J];refine⟨d,_,_,?_,((((((((((((((a.mr.put 0 _).put 1 _).put 2 _).put 3 _).put 4 _).put 5 _).put 6 _).put 7 _).put 8 _).put 9 _).put 10 _).put 11 _).put 12 _).put 13 _).fin t,HB.J⟩;first|rfl|(rw[r.J];rfl)
theorem Rd.stage(a:Rd o w p c v m n)(i:c.deep=0)(b:n+m.len<=600):Calls prog 41 #[π (σ ⟨p,0,ν⟩)] w (SH o w p c v m n):=by rcases or5 (m.is aW) (m.is aM) (m.is aJ) (m.is aG) (m.is aO)with⟨d,e,f,-⟩|g|g|g|⟨d,e,f,-⟩|⟨d,e,f,-⟩;{exact afl a b d e f};{exact afk a i b (.inl g)};{exact afk a i b (.inr (.inl g))};{exact afk a i b (.inr (.inr g))};{exact afl a b d e f};exact afl a b d e f
end
abbrev bC:ByteArray:=⟨#[99,114,101,97,116,101]⟩
abbrev bD:ByteArray:=⟨#[100,114,111,112]⟩
abbrev bL:ByteArray:=⟨#[108,111,97,100]⟩
abbrev bG:ByteArray:=⟨#[103,114,97,110,116]⟩
abbrev bR:ByteArray:=⟨#[114,101,118,111,107,101]⟩
theorem Tryz.aiT:(prog.info? 89).map (λa=>(a.zero,a.size,a.bytes))=σ (σ (χ #[ι κ 0,ψ ν 0 0]),2,32):=by kernel_rfl
theorem Tryz.aaW:(prog.info? 95).map (λa=>(a.zero,a.size,a.bytes))=σ (σ (.agg (tE (sy ⟨#[]⟩ 0))),14,208):=by kernel_rfl
theorem akD(d:SV):∀b∈(tE d).toList,b.oneCell'=true:=by intro b a;simp[tE]at a;rcases a with rfl|rfl|rfl|rfl|rfl|rfl|rfl|rfl|rfl|rfl|rfl|rfl|rfl|rfl<;>rfl
theorem afm{m:Mode}{i:List eZ}(a:(bO m).1=.query i):m.is bC=false/\m.is bD=false/\m.is bL=false/\m.is bG=false/\m.is bR=false:=by unfold bO at a;by_cases b:m.is pR=true;{simp only[b,if_true]at a;cases a};simp only[b]at a;by_cases d:m.is zw=true;{simp only[d,if_true]at a;cases a};simp only[d]at a;by_cases e:m.is BQ=true;{simp only[e,if_true]at a;cases a};simp only[e]at a;by_cases f:m.is xH=true;{simp only[f,if_true]at a;cases a};simp only[f]at a;by_cases g:m.is vC=true;{simp only[g,if_true]at a;cases a};exact⟨eJ.2 b,eJ.2 d,eJ.2 e,eJ.2 f,eJ.2 g⟩
section
variable {o:ω×υ} {w w':ω} {p:Nat} {c:gO} {v:υ} {m:Mode} {n:Nat}
theorem Rd.asc(e:Rd o w p c v m n)(y:SI c)(hm:n+m.len<=600)(c3:w.cell? ⟨p,3,ν⟩=σ (θ x))(i0:m.is bC=false)(i1:m.is bD=false)(i2:m.is bL=false)(i3:m.is bG=false)(i4:m.is bR=false):Calls prog 23 #[π (σ ⟨p,0,ν⟩)] w (V8 o w p v m x):=by obtain⟨x0,Z,lU,lV,lk⟩:=info_parts Tryz.aaW;obtain⟨_,_,_,_,_,_,_,_,_,_,_,c9⟩:=e.wH;have z9:=e.nw.2.2.2.2 9;have S:=e.start.ar5 (θ x);have ar:=dD (m:=m);go_in;have Gy:=au (show bO m=(.query (cO (m.take fB).name.2.len [{ bare fB m.place with table:=(m.take fB).name.1 }] (m.take fB).name.2).1,(cO (m.take fB).name.2.len [{ bare fB m.place with table:=(m.take fB).name.1 }] (m.take fB).name.2).2)by unfold bO;rw[show m.is pR=_ from i0,show m.is zw=_ from i1,show m.is BQ=_ from i2,show m.is xH=_ from i3,show m.is vC=_ from i4]<;>rfl);go_wp2_with(go_at_call 35;refine(S.rd.is _).mono ?_;rintro r' w' ⟨rfl,rfl⟩);refine(S.rd.take _).mono ?_;rintro O w1 ⟨s,rfl,Q,f1⟩;have W:Rd (w,v) w1 p { c with word:=θ x } v (m.take fB) n:=Q;have av:=take_len m fB;clear c3 c9 z9 Q;go_wp2_with fail;refine(W.name).mono ?_;rintro O P ⟨g,f,rfl,h2,f2⟩;have FJ:=dW (m.take fB);have d:St (w,v) (P.alloc (ξ #[θ g,ι κ f] 34)) p { c with word:=θ x,fD:=ψ ν 0 0 } v (m.take fB).name.2 n [.box P.heap.size #[θ g,ι κ f] 34,.row (ψ ν 0 0) 95 14 0]:=(by have ac:{ c with word:=θ x,fD:=ψ ν 0 0 }={ c with word:=θ x }:=(by cases c;cases y.fD;rfl);rw[ac];exact(((S.call W f1).call h2 f2).nil 95 14).new _ _);obtain⟨a,i⟩:=nm (P.alloc (ξ #[θ g,ι κ f] 34 (0,0)));rw[<- i]at d;obtain⟨u0,u1⟩:=kT d.box;have U:=d.rd.nw.2.2.2.1;have ab:=d.rd.lt;have k:=((d.alloc (ξ (tE { sy ⟨#[102,114,111,109]⟩ s with t:=g,j:=f }) 95)).drew).mr;obtain⟨xs,own⟩:=k.row;have L:=au own;have K:=au (World.news_of_block (w:=(a.alloc (ξ (tE { sy ⟨#[102,114,111,109]⟩ s with t:=g,j:=f }) 95 (0,0))).drew) (B:=a.heap.size) (ak a (ξ (tE { sy ⟨#[102,114,111,109]⟩ s with t:=g,j:=f }) 95 (0,0))));have t:=au (show(a.alloc (ξ (tE { sy ⟨#[102,114,111,109]⟩ s with t:=g,j:=f }) 95 (0,0))).drew.heap.size=a.heap.size+1 by show(a.heap.push _).size=_;rw[ej]);have M:=au k.rd.fr.keeps.size;have D:=au (akD { sy ⟨#[102,114,111,109]⟩ s with t:=g,j:=f });have F:=au i;clear own i;go_wp2_with fail;rw[<- F.J];go_region_law(refine step_append_lies _ rfl (.tmp 92) (.tmp 96) 38 rfl w.heap.size 95 x0 _ 14 208 underlying38 Z lU lV lk rfl (by decide) _ _ _ (by simp[Act.eval]) L.J ⟨a.heap.size,0,ν⟩ 1 1 (tE { sy ⟨#[102,114,111,109]⟩ s with t:=g,j:=f }).toList (by simp[Act.eval]) rfl K.J D.J (by decide) (by unfold maxLen;omega) (by omega) M.J (a.heap.size+1) t.J ?_;intro N fS we A B C _;have j:=k.app A B (by rw[t.J];rcases C with e|e;exact .inl e;exact .inr (by omega));have aa:=j.rd.nw.2.2.2.1;have kf:=j.rd.nw.2.2.2.2 18;clear A B C);all_goals have u:=j.akC (ψ (σ ⟨N,0,ν⟩) (0+1) fS);clear u0 u1 U;go_wp2_with fail;clear aa kf;go_loopw[] (λwr=>∃(b:Mode) (v':υ) (G:Nat) (H:Option Addr) (q I r:Nat) (z:List eZ),St (w,v) wr p { c with word:=θ x,fD:=ψ H q I } v' b G [.row (ψ H q I) 95 14 q]/\b.len<=r/\q+b.len<=m.len+1/\G+b.len<=n+m.len+b.due/\Hid (cO r z b=cO (m.take fB).name.2.len [{ bare fB m.place with table:=(m.take fB).name.1 }] (m.take fB).name.2/\q=z.length)) (λwr=>2000 - lenOf ((wr.cell? ⟨p,18,ν⟩).getD undef));(case atStart=>exact⟨(m.take fB).name.2,v,n,_,0+1,_,_,_,u.mr.drop,ae _,by omega,by omega,au ⟨rfl,rfl⟩⟩);case round=>clear L K t F M D u j k d;obtain⟨b,v',G,H,q,I,r,z,S,aq,xK,C9,E⟩:=hrel;have Bb:lenOf ((wr.cell? ⟨p,18,ν⟩).getD undef)=q:=(by rw[S.rd.nw.2.2.2.1];rfl);cases ic:b.is (ByteArray.mk #[124]);{have R:=au (show bO m=(.query z,b)by rw[Gy.J,<- E.J.1,zD (show b.is me=false from ic)]);go_wp2_with(go_at_call 35;refine(S.rd.is _).mono ?_;rintro r' w' ⟨rfl,rfl⟩);go_end0;obtain⟨Y,f9⟩:=S.fin e;rw[show b=(bO m).2 by rw[R.J]]at Y;exact⟨rfl,_,_,G,⟨Y,f9⟩,rfl,⟨y.shaped.names,y.shaped.kinds,y.shaped.rows,⟨_,_,_,rfl⟩⟩,λss hs=>⟨H,I,by rw[R.J]at hs;rw[<- Bt.query.inj hs,<- E.J.2]⟩⟩};obtain⟨e3,e4,e5⟩:=S.rd.live ic;rw[sG e3]at C9;obtain⟨r,rfl⟩:∃N,r=N+1:=⟨r - 1,by omega⟩;have xE:=au (And.intro (FI E.J.1 (show b.is me=true from ic)) (show q+1=(z++[(cH b.next).1]).length by rw[aw,E.J.2];rfl));go_wp2_with(go_at_call 35;refine(S.rd.is _).mono ?_;rintro r' w' ⟨rfl,rfl⟩);refine(S.rd.next e4).mono ?_;rintro O w3 ⟨rfl,X,f3⟩;go_wp2_with fail;refine(X.stage y.deep (by omega)).mono ?_;rintro O wc ⟨l,vc,nc,rfl,⟨h4,f4⟩,b1,b2,b3⟩;have d:=((S.call X f3).call h4 f4).new (tE l) 95;obtain⟨a,i⟩:=nm (wc.alloc (ξ (tE l) 95 (0,0)));rw[<- i]at d;obtain⟨g0,g1,g2,g3,g4,g5,g6,g7,g8,g9,am,an,ao,ap⟩:=yI d.box;have U:=d.rd.nw.2.2.2.1;have ab:=d.rd.lt;have k:=((d.alloc (ξ (tE l) 95)).drew).mr;obtain⟨xs,own⟩:=k.row;have L:=au own;have K:=au (World.news_of_block (w:=(a.alloc (ξ (tE l) 95 (0,0))).drew) (B:=a.heap.size) (ak a (ξ (tE l) 95 (0,0))));have t:=au (show(a.alloc (ξ (tE l) 95 (0,0))).drew.heap.size=a.heap.size+1 by show(a.heap.push _).size=_;rw[ej]);have M:=au k.rd.fr.keeps.size;have D:=au (akD l);simp only[tE]at i;have F:=au i;clear own i;simp only[tE];go_wp2_with fail;rw[<- F.J];go_region_law(refine step_append_lies _ rfl (.tmp 112) (.tmp 114) 38 rfl w.heap.size 95 x0 _ 14 208 underlying38 Z lU lV lk rfl (by decide) _ _ _ (by simp[Act.eval]) L.J ⟨a.heap.size,0,ν⟩ 1 1 (tE l).toList (by simp[Act.eval]) rfl K.J D.J (by decide) (by unfold maxLen;omega) (by omega) M.J (a.heap.size+1) t.J ?_;intro V T al A B C _;have j:=k.app A B (by rw[t.J];rcases C with e|e;exact .inl e;exact .inr (by omega));have aa:=j.rd.nw.2.2.2.1;have kf:=j.rd.nw.2.2.2.2 18;clear A B C);all_goals have u:=j.akC (ψ (σ ⟨V,0,ν⟩) (q+1) T);have ad:lenOf (((al.setCell ⟨p,18,ν⟩ (ψ (σ ⟨V,0,ν⟩) (q+1) T)).cell? ⟨p,18,ν⟩).getD undef)=q+1:=(by rw[u.rd.nw.2.2.2.1];rfl);go_wp2_with fail;go_roundw;(case rel=>exact⟨_,_,nc,_,q+1,_,r,_,u.mr.drop,by omega,by omega,by omega,xE⟩);case measure=>rw[ad,Bb];omega
theorem Rd.asd(j:Rd o w p c v m n)(g:SI c)(hm:n+m.len<=600)(c3:w.cell? ⟨p,3,ν⟩=σ (θ x))(a:m.is bC=true\/(m.is bC=false/\m.is bD=true)\/(m.is bC=false/\m.is bD=false/\m.is bL=true)\/(m.is bC=false/\m.is bD=false/\m.is bL=false/\m.is bG=true)\/(m.is bC=false/\m.is bD=false/\m.is bL=false/\m.is bG=false/\m.is bR=true)):Calls prog 23 #[π (σ ⟨p,0,ν⟩)] w (V8 o w p v m x):=by
 obtain⟨y0,yi,av,ax,aC⟩:=info_parts Tryz.aiT;obtain⟨_,_,_,_,_,_,_,_,_,_,_,c9⟩:=j.wH;have z9:=j.nw.2.2.2.2 9;have S:=j.start.ar5 (θ x);have a4:=dD (m:=m);go_in;have ad:∀D,(bO m).1=.query D->False:=λD N=>by
  obtain⟨h0,e,b,A,K⟩:=afm N;rcases a with a|⟨-,a⟩|⟨-,-,a⟩|⟨-,-,-,a⟩|⟨-,-,-,-,a⟩
  . rw[h0]at a;cases a
  . rw[e]at a;cases a
  . rw[b]at a;cases a
  . rw[A]at a;cases a
  . rw[K]at a;cases a
 have ab:=au ad;clear ad;rcases a with a|⟨y,a⟩|⟨y,O,a⟩|⟨y,O,i2,a⟩|⟨y,O,i2,i3,a⟩
 all_goals
  go_wp2_with(go_at_call 35;refine(S.rd.is _).mono ?_;rintro r' w' ⟨rfl,rfl⟩);refine(S.rd.next (S.rd.live a).2.1).mono ?_;rintro l w1 ⟨rfl,e,I⟩;clear c3 c9 z9;go_wp2_with fail;first
   | (have z:=au (show(bO m).2=(dk uy (m.next.name.2.take cq)).2.take cY by unfold bO;rw[show m.is pR=_ from a]<;>rfl)
      refine(e.create (by omega) g.names g.kinds).mono ?_;rintro l Q ⟨rfl,an,a',q,q',aq,k',b,i⟩;have U:=(S.call e I).call b i)
   | (have z:=au (show(bO m).2=m.next.name.2 by unfold bO;rw[show m.is pR=_ from y,show m.is zw=_ from a]<;>rfl)
      refine(e.name).mono ?_;rintro l Q ⟨C,B,rfl,b,i⟩;obtain⟨_,_,_,_,_,_,G,H,_⟩:=b.wH;have aa:=b.nw.2.2.2.2;have U:=((S.call e I).call b i).SG C B)
   | (have z:=au (show(bO m).2=(mW (kW m.next.name.2).2.len [(kW m.next.name.2).1] (kW m.next.name.2).2).2 by unfold bO;rw[show m.is pR=_ from y,show m.is zw=_ from O,show m.is BQ=_ from a]<;>rfl)
      refine(e.name).mono ?_;rintro l Q ⟨C,B,rfl,b,i⟩;obtain⟨_,_,_,_,_,_,G,H,_⟩:=b.wH;have z0:=b.nw.2.2.2.2 10;have z1:=b.nw.2.2.2.2 11;have FJ:=dW m.next;have T:St (w,v) ((Q.setCell ⟨p,10,ν⟩ (θ C)).setCell ⟨p,11,ν⟩ (ι κ B)) p { c with word:=θ x,rows:=ψ ν 0 0 } v m.next.name.2 n [.row (ψ ν 0 0) 89 2 0]:=by
       have ao:{ c with word:=θ x,rows:=ψ ν 0 0 }={ c with word:=θ x }:=by cases c;cases g.rows;rfl
       rw[ao];exact(((S.call e I).call b i).SG C B).nil 89 2
      go_wp2_with fail;clear G H z0 z1;go_loopw[2] (λa wr=>∃(F:Bool) (d:Mode) (sa:Option Addr) (q sk:Nat),a=.bool F/\St (w,v) wr p { c with word:=θ x,rows:=ψ sa q sk } v d n [.row (ψ sa q sk) 89 2 q]/\q+d.len<=m.len+1/\Hid ((q=0/\F=true/\d=m.next.name.2)\/(0<q/\F=d.is cq/\∃f P,d.len<=f/\mW f P d=mW (kW m.next.name.2).2.len [(kW m.next.name.2).1] (kW m.next.name.2).2))) (λ_ wr=>2000 - lenOf ((wr.cell? ⟨p,16,ν⟩).getD undef))
      case atStart=>exact⟨true,_,_,0,_,rfl,T,by omega,au (.inl ⟨rfl,rfl,rfl⟩)⟩
      case round=>
       obtain⟨F,d,sa,q,sk,rfl,S,xK,Y⟩:=hrel;have Bb:lenOf ((wr.cell? ⟨p,16,ν⟩).getD undef)=q:=by rw[S.rd.nw.2.2.1];rfl
       cases F
       . have HF:=au (show(bO m).2=d by
          rw[z.J];rcases Y.J with⟨-,M,-⟩|⟨-,M,f,P,-,pH⟩
          . cases M
          . rw[<- pH,LX M.symm])
         go_wp2_with fail;go_end0;obtain⟨L,f9⟩:=S.fin j;rw[<- HF.J]at L;exact⟨rfl,_,_,n,⟨L,f9⟩,rfl,⟨g.shaped.names,g.shaped.kinds,⟨_,_,_,rfl⟩,g.shaped.fD⟩,λD N=>(ab.J D N).elim⟩
       . have W:=zC d
         have ac:=take_len d cq;have HM:Hid (q+1+(kW d).2.len<=m.len+1/\∃f P,(kW d).2.len<=f/\mW f P (kW d).2=mW (kW m.next.name.2).2.len [(kW m.next.name.2).1] (kW m.next.name.2).2):=by
          rcases Y.J with⟨hq,-,R⟩|⟨hq,M,f,P,a2,pH⟩
          . exact au ⟨by rw[R]at W ac ⊢;omega,_,_,ae _,by rw[R]⟩
          . have ic:d.is cq=true:=M.symm
            have e5:=(S.rd.live ic).2.2;have ht:d.take cq=d.next:=aF ic;rw[ht]at W;obtain⟨f,rfl⟩:∃V,f=V+1:=⟨f - 1,by omega⟩;exact au ⟨by omega,f,_,by omega,LW pH ic⟩
         have a5:q<=601:=by omega
         have a3:d.len<=600:=by
          rcases Y.J with⟨-,-,R⟩|⟨hq,-⟩
          . rw[R];omega
          . omega
         clear W ac;go_wp2_with fail;refine(S.rd.row (by omega)).mono ?_;rintro l wc ⟨k,r,t,s,rfl,A,f3⟩;have E:=(S.call A f3).new #[ι κ k,ψ r t s] 89;obtain⟨u,X⟩:=nm (wc.alloc (ξ #[ι κ k,ψ r t s] 89 (0,0)));rw[<- X]at E;obtain⟨u0,u1⟩:=kT E.box;have a1:=E.rd.nw.2.2.1;have a0:=E.rd.lt;have Sw:=((E.alloc (ξ #[ι κ k,ψ r t s] 89)).drew).mr;obtain⟨xs,own⟩:=Sw.row;have vu:=au own;have uQ:=au (World.news_of_block (w:=(u.alloc (ξ #[ι κ k,ψ r t s] 89 (0,0))).drew) (B:=u.heap.size) (ak u (ξ #[ι κ k,ψ r t s] 89 (0,0))));have xc:=au (show(u.alloc (ξ #[ι κ k,ψ r t s] 89 (0,0))).drew.heap.size=u.heap.size+1 by show(u.heap.push _).size=_;rw[ej]);have zc:=au Sw.rd.fr.keeps.size;have H1:=au (show∀al∈[Value.int κ k,ψ r t s],al.oneCell'=true by intro al hu;simp at hu;rcases hu with rfl|rfl<;>rfl);have am:=au X;clear own X;go_wp2_with fail;rw[<- am.J];go_region_law(refine step_append_lies _ rfl (.tmp 52) (.tmp 54) 37 rfl w.heap.size 89 y0 _ 2 32 underlying37 yi av ax aC rfl (by decide) _ _ _ (by simp[Act.eval]) vu.J ⟨u.heap.size,0,ν⟩ 1 1 [ι κ k,ψ r t s] (by simp[Act.eval]) rfl uQ.J H1.J (by decide) (by unfold maxLen;omega) (by omega) zc.J (u.heap.size+1) xc.J ?_;intro V fS we py tR zB _;have Z:=Sw.app py tR (by rw[xc.J];rcases zB with j|j;exact .inl j;exact .inr (by omega));have a8:=Z.rd.nw.2.2.1;have kf:=Z.rd.nw.2.2.2.2 16;clear py tR zB)
         all_goals
          have Se:=Z.ar7 (ψ (σ ⟨V,0,ν⟩) (q+1) fS);have ar:lenOf (((we.setCell ⟨p,16,ν⟩ (ψ (σ ⟨V,0,ν⟩) (q+1) fS)).cell? ⟨p,16,ν⟩).getD undef)=q+1:=by rw[Se.rd.nw.2.2.1];rfl
          go_wp2_with(go_at_call 35;refine(Se.rd.is _).mono ?_;rintro r' w' ⟨rfl,rfl⟩);go_roundw
          case rel=>
           obtain⟨hf,f',l',ap,KN⟩:=HM.J;exact⟨_,_,_,q+1,_,rfl,Se.mr.drop,hf,au (.inr ⟨by omega,rfl,f',l',ap,KN⟩)⟩
          case measure=>rw[ar,Bb];omega)
   | (have z:=au (show(bO m).2=(fE (lvl 8) (((jQ ((m.next.name.2.take zj).name.2.take cq)).2.take cY).take dR)).2 by unfold bO;rw[show m.is pR=_ from y,show m.is zw=_ from O,show m.is BQ=_ from i2,show m.is xH=_ from a]<;>rfl)
      refine(e.BP g.deep (by omega)).mono ?_;rintro l Q ⟨rfl,v2,n2,an,q,aq,b,i⟩;have U:=(S.call e I).call b i)
   | (have z:=au (show(bO m).2=(m.next.name.2.take zj).name.2 by unfold bO;rw[show m.is pR=_ from y,show m.is zw=_ from O,show m.is BQ=_ from i2,show m.is xH=_ from i3,show m.is vC=_ from a]<;>rfl)
      refine(e.name).mono ?_;rintro l Q ⟨C,B,rfl,b,i⟩;obtain⟨_,_,_,_,_,_,_,_,G,H,_⟩:=b.wH;have aa:=b.nw.2.2.2.2;have T:=((S.call e I).call b i).akA C B;go_wp2_with fail;refine(T.rd.take _).mono ?_;rintro l w3 ⟨_,rfl,A,f3⟩;clear G H aa;go_wp2_with fail;refine(A.name).mono ?_;rintro l w4 ⟨s4,j4,rfl,K,f4⟩;obtain⟨_,_,_,_,_,_,G,H,_⟩:=K.wH;have aa:=K.nw.2.2.2.2;have U:St (w,v) _ p _ v (m.next.name.2.take zj).name.2 n _:=((T.call A f3).call K f4).SG s4 j4)
  all_goals go_wp2_with fail;go_end0;obtain⟨L,f9⟩:=U.fin j;rw[<- z.J]at L;refine⟨rfl,_,_,_,⟨L,f9⟩,rfl,⟨?_,?_,g.shaped.rows,g.shaped.fD⟩,λD N=>(ab.J D N).elim⟩<;>first|exact⟨_,_,_,rfl⟩|exact g.shaped.names|exact g.shaped.kinds
theorem Rd.command(a:Rd o w p c v m n)(b:SI c)(d:n+m.len<=600)(c3:w.cell? ⟨p,3,ν⟩=σ (θ x)):Calls prog 23 #[π (σ ⟨p,0,ν⟩)] w (V8 o w p v m x):=by rcases or5 (m.is bC) (m.is bD) (m.is bL) (m.is bG) (m.is bR)with⟨e,f,g,i,j⟩|k;{exact a.asc b d c3 e f g i j};exact a.asd b d c3 k
end
section
variable {o:ω×υ} {w w':ω} {p:Nat} {c:gO} {v:υ} {m:Mode} {n:Nat}
theorem Rd.ase(f:Rd o w p c v m n):∃a d:Nat,w.cell? ⟨p,6,ν⟩=σ (ι κ a)/\w.cell? ⟨p,7,ν⟩=σ (ι κ d)/\((m=.dead a d/\((a:Int) != 0)=true)\/(m.alive/\((a:Int) != 0)=false)):=by obtain⟨e,j,q,_⟩:=f.ex;refine⟨e.e,e.bad,q.pen.cell 6,q.pen.cell 7,?_⟩;have:=q.mode;cases m with|dead _ _=>(obtain⟨b,g,i⟩:=this;exact .inl ⟨by rw[b,g],by rw[jD];omega⟩)|live k l=>exact .inr ⟨trivial,by have b:=this.1;rw[b];rfl⟩
theorem Rd.afn(U:Rd o w p c v m n)(W:Shaped c)(Z:c.word=θ x):∃(b:ByteArray) (d:Int) (e:ByteArray) (f:Int) (B:Option Addr) (t j:Nat) (C:Option Addr) (u k:Nat) (D:Option Addr) (y l:Nat) (g:Int) (E:Option Addr) (z r:Nat) (A:Option Addr) (s i:Nat),
 w.cell? ⟨p,9,ν⟩=σ (θ x)/\w.cell? ⟨p,10,ν⟩=σ (θ b)/\w.cell? ⟨p,11,ν⟩=σ (ι κ d)/\w.cell? ⟨p,12,ν⟩=σ (θ e)/\w.cell? ⟨p,13,ν⟩=σ (ι κ f)/\w.cell? ⟨p,14,ν⟩=σ (ψ B t j)/\w.cell? ⟨p,15,ν⟩=σ (ψ C u k)/\w.cell? ⟨p,16,ν⟩=σ (ψ D y l)/\w.cell? ⟨p,17,ν⟩=σ (ι κ g)/\w.cell? ⟨p,18,ν⟩=σ (ψ E z r)/\w.cell? ⟨p,19,ν⟩=σ (ψ A s i):=by obtain⟨aa,ns,q,a,_⟩:=U.ex;obtain⟨⟨b,I⟩,⟨d,L⟩,⟨e,M⟩,⟨f,N⟩,⟨g,R⟩⟩:=a.form;obtain⟨⟨B,t,j,O⟩,⟨C,u,k,P⟩,⟨D,y,l,Q⟩,⟨E,z,r,T⟩⟩:=W;have X:∃F G H,aa.nodes=ψ F G H:=(by rcases q.own.2 with⟨V,_⟩|⟨ac,ab,_,Y,_⟩;{exact⟨_,_,_,V⟩};exact⟨_,_,_,Y⟩);obtain⟨A,s,i,K⟩:=X;exact⟨b,d,e,f,B,t,j,C,u,k,D,y,l,g,E,z,r,A,s,i,(q.pen.cell 9).trans (a7 σ (a.word.trans Z)),(q.pen.cell 10).trans (a7 σ I),(q.pen.cell 11).trans (a7 σ L),(q.pen.cell 12).trans (a7 σ M),(q.pen.cell 13).trans (a7 σ N),(q.pen.cell 14).trans (a7 σ (a.names.trans O)),(q.pen.cell 15).trans (a7 σ (a.kinds.trans P)),(q.pen.cell 16).trans (a7 σ (a.rows.trans Q)),(q.pen.cell 17).trans (a7 σ R),(q.pen.cell 18).trans (a7 σ (a.fD.trans T)),(q.pen.cell 19).trans (a7 σ K)⟩
end
theorem afo{K:Nat->Prop}{w:ω}{p:Nat}{x:gO}(R:uA w p x)(F:Laid w)(t:0<p)(e:x.S.size<=300)(O:x.pos=0)(u:x.e=0)(D:x.nodes=ψ ν 0 0)(L:K 0)(C:¬K p)(hold:∀f,K f->f<w.heap.size) :
 Calls prog 22 #[π (σ ⟨p,0,ν⟩)] w λH w'=>
 H=.returned (.tuple #[])/\∃d,iX K w' p d (Mode.of (dv x.S 0)) []/\Rest x d/\d.nodes=ψ ν 0 0/\aY K w w':=by refine(PR p x w R F t e (by omega)).mono ?_;rintro H w' ⟨rfl,d,Q,b,A⟩;have P:aY K w w':=A.mono (λf l=>⟨λM=>C (M ▸ l),hold f l⟩);refine⟨rfl,d,?_,?_,by rw[b.same];exact D,P⟩;{have k:d.S=x.S:=(by rw[b.same]);have B:d.e=x.e:=(by rw[b.same]);have y:d.nodes=ψ ν 0 0:=(by rw[b.same];exact D);have I:d.pos<=x.S.size+1/\d.tp<=x.S.size:=(by by_cases a:aP x.S bS x.pos<x.S.size;{obtain⟨N,z,e⟩:=b.tok a;rw[z,e];refine⟨PU x.S _ a,by omega⟩};obtain⟨N,z,e⟩:=b.fin a;rw[z,e];have:=fY x.S bS x.pos (by omega);exact⟨by omega,ae _⟩);refine⟨Q,F.keeps A t,t,by rw[k];exact e,by rw[k];exact I.1,b.k,b.n,by rw[k];exact I.2,?_,?_,by rw[y];simp[Value.ownBlock],L,C,λU E=>by rw[y]at E;simp[Value.ownBlock]at E,λf l=>ai (hold f l) A.size⟩;{rw[<- O];by_cases a:aP x.S bS x.pos<x.S.size;{obtain⟨i,s,G⟩:=b.tok a;by_cases r:(ez x.S (aP x.S bS x.pos) a).1.ends=true;{have j:dv x.S x.pos=[⟨.bad,aP x.S bS x.pos⟩]:=(by rw[dv];simp only[dif_pos a,dif_pos r]);rw[j];have T:(ez x.S (aP x.S bS x.pos) a).1=.bad:=Cq x.S _ a r;rw[T]at i;exact⟨by rw[B];exact u,i,s,λg=>by simp[Tk.ends]at g,λ_=>rfl⟩};have j:dv x.S x.pos=⟨(ez x.S (aP x.S bS x.pos) a).1,aP x.S bS x.pos⟩::dv x.S (ez x.S (aP x.S bS x.pos) a).2:=(by rw[dv];simp only[dif_pos a,dif_neg r]);rw[j];exact⟨by rw[B];exact u,i,s,λ_=>by rw[k,G],λg=>absurd g r⟩};obtain⟨i,s,G⟩:=b.fin a;have j:dv x.S x.pos=[⟨.stop,x.S.size⟩]:=(by rw[dv];simp only[dif_neg a]);rw[j];exact⟨by rw[B];exact u,i,s,λg=>by simp[Tk.ends]at g,λ_=>rfl⟩};rw[y];exact iJ _ _ _ _};rw[b.same];exact⟨rfl,rfl,rfl,rfl,rfl,rfl,rfl,rfl,rfl,rfl,rfl,rfl⟩
def anN(S:ByteArray):gO:=⟨S,0,0,⟨#[]⟩,0,0,0,0,0,θ ⟨#[]⟩,θ ⟨#[]⟩,ι κ 0,θ ⟨#[]⟩,ι κ 0,ψ ν 0 0,ψ ν 0 0,ψ ν 0 0,ι κ 0,ψ ν 0 0,ψ ν 0 0⟩
theorem Ko{S:ByteArray}(d:S.size<=300){a:Nat}(b:(bO (Mode.of (dv S 0))).2=.dead l a):fg S=.inr (l,a):=by unfold fg;rw[aE (by omega)];simp only[b]
theorem V9{S:ByteArray}(d:S.size<=300){b:List Tok}(a:(bO (Mode.of (dv S 0))).2=.live ⟨.stop,l⟩ b):fg S=.inl (bO (Mode.of (dv S 0))).1:=by unfold fg;rw[aE (by omega)];simp only[a]
theorem Wa{S:ByteArray}(d:S.size<=300){k:Tk}{pl:Nat}{ts:List Tok}(a:k≠.stop)(b:(bO (Mode.of (dv S 0))).2=.live ⟨k,pl⟩ ts):fg S=.inr (2,pl):=by unfold fg;rw[aE (by omega)];simp only[b];cases k<;>first|rfl|exact absurd rfl a
def Ic(S:ByteArray):Bool:=match fg S with|.inl (.query _)=>true|_=>false
def akF(r:Ending)(S:ByteArray):Prop:=∃(a0 a1:ByteArray) (a2:Int) (a3:ByteArray) (a4:Int) (p5:Option Addr) (n5 c5:Nat) (p6:Option Addr) (n6 c6:Nat) (p7:Option Addr) (n7 c7:Nat) (a8:Int) (p9:Option Addr) (n9 c9:Nat) (p10:Option Addr) (n10 c10:Nat) (e b:Nat),
 r=.returned (.tuple #[χ #[θ a0,θ a1,ι κ a2,θ a3,ι κ a4,ψ p5 n5 c5,ψ p6 n6 c6,ψ p7 n7 c7,ι κ a8,ψ p9 n9 c9,ψ p10 n10 c10],ι κ e,ι κ b])/\
 (jN a0 fB=Ic S)/\((∃c,fg S=.inl c/\e=0)\/(fg S=.inr (e,b)))/\∀ss,fg S=.inl (.query ss)->n9=ss.length
theorem aaX{m:Mode}(a:¬m.alive):¬m.name.2.alive:=by cases m with|live e f=>exact absurd trivial a|dead d b=>exact a
theorem SJ{m:Mode}(a:¬m.alive)(b:Nat)(d:List eZ):¬(cO b d m).2.alive:=by rw[zD (SE a me)];exact a
theorem aiU{m:Mode}(b:∀j,m.is j=true->x=j)(a:(bO m).2.alive):jN x fB=match(bO m).1 with|.query _=>true|_=>false:=by unfold bO at a ⊢;by_cases d:m.is pR=true;{rw[aF d,b _ d];rfl};rw[aE d]at a ⊢;by_cases e:m.is zw=true;{rw[aF e,b _ e];rfl};rw[aE e]at a ⊢;by_cases f:m.is BQ=true;{rw[aF f,b _ f];rfl};rw[aE f]at a ⊢;by_cases g:m.is xH=true;{rw[aF g,b _ g];rfl};rw[aE g]at a ⊢;by_cases i:m.is vC=true;{rw[aF i,b _ i];rfl};rw[aE i]at a ⊢;have k:m.is fB=true:=(by apply iA;intro r;have l:¬(m.take fB).alive:=(by unfold Mode.take;rw[aE r];exact dz m 2);exact SJ (aaX l) _ _ a);rw[b _ k];rfl
theorem Yf{w:ω}(a:w.heap[l]?=σ (ξ #[θ ⟨#[]⟩,θ ⟨#[]⟩,ι κ 0,θ ⟨#[]⟩,ι κ 0,ψ ν 0 0,ψ ν 0 0,ψ ν 0 0,ι κ 0,ψ ν 0 0,ψ ν 0 0] i (0,0))):(w.cell? ⟨l,0,ν⟩=σ (θ ⟨#[]⟩)/\w.cell? ⟨l,1,ν⟩=σ (θ ⟨#[]⟩)/\w.cell? ⟨l,2,ν⟩=σ (ι κ 0)/\w.cell? ⟨l,3,ν⟩=σ (θ ⟨#[]⟩)/\w.cell? ⟨l,4,ν⟩=σ (ι κ 0)/\w.cell? ⟨l,5,ν⟩=σ (ψ ν 0 0)/\w.cell? ⟨l,6,ν⟩=σ (ψ ν 0 0)/\w.cell? ⟨l,7,ν⟩=σ (ψ ν 0 0)/\w.cell? ⟨l,8,ν⟩=σ (ι κ 0)/\w.cell? ⟨l,9,ν⟩=σ (ψ ν 0 0)/\w.cell? ⟨l,10,ν⟩=σ (ψ ν 0 0))/\w.frozen? ⟨l,0,ν⟩=false/\w.frozen? ⟨l,1,ν⟩=false/\w.frozen? ⟨l,2,ν⟩=false/\w.frozen? ⟨l,3,ν⟩=false/\w.frozen? ⟨l,4,ν⟩=false/\w.frozen? ⟨l,5,ν⟩=false/\w.frozen? ⟨l,6,ν⟩=false/\w.frozen? ⟨l,7,ν⟩=false/\w.frozen? ⟨l,8,ν⟩=false/\w.frozen? ⟨l,9,ν⟩=false/\w.frozen? ⟨l,10,ν⟩=false:=
 have b:=bZ a
 ⟨⟨dp a 0,dp a 1,dp a 2,dp a 3,dp a 4,dp a 5,dp a 6,dp a 7,dp a 8,dp a 9,dp a 10⟩,b 0,b 1,b 2,b 3,b 4,b 5,b 6,b 7,b 8,b 9,b 10⟩
theorem aaY(S:ByteArray)(w:ω)(a:300<S.size):Calls prog 13 #[θ S] w λd w'=>akF d S/\Below w.heap.size w w':=by
 have b:fg S=.inr (1,0):=aF a;have e:(300:Int)<S.size:=by omega
 go_in;go_wp2_with fail;(try simp only[Exit.inBlock,Exit.then]);refine aD (v:=.tuple #[χ #[θ ⟨#[]⟩,θ ⟨#[]⟩,ι κ 0,θ ⟨#[]⟩,ι κ 0,ψ ν 0 0,ψ ν 0 0,ψ ν 0 0,ι κ 0,ψ ν 0 0,ψ ν 0 0],ι κ 1,ι κ 0]) (by simp[results,results13,go_sem];try rfl) rfl ?_;exact⟨⟨_,_,_,_,_,_,_,_,_,_,_,_,_,_,_,_,_,_,_,_,_,1,0,rfl,by unfold Ic;rw[b];rfl,.inr b,λf a=>by rw[b]at a;cases a⟩,(ah _ _).alloc (ae _) _⟩
theorem Nb(S:ByteArray)(w:ω)(hl:Laid w)(h0:0<w.heap.size):Calls prog 13 #[θ S] w λP w'=>akF P S/\Below w.heap.size w w':=by
 by_cases hS:300<S.size;{exact aaY S w hS};have b:S.size<=300:=by omega
 have h':¬(300:Int)<S.size:=by omega
 have ba:=amP S b;have HL:=au hl;clear hl hS;go_in;go_wp2_with fail;generalize hW:World.alloc (World.alloc w _) _=i;obtain⟨l,b2,b3,b4⟩:Below w.heap.size w i/\i.heap[w.heap.size]?=σ (ξ #[θ ⟨#[]⟩,θ ⟨#[]⟩,ι κ 0,θ ⟨#[]⟩,ι κ 0,ψ ν 0 0,ψ ν 0 0,ψ ν 0 0,ι κ 0,ψ ν 0 0,ψ ν 0 0] 41 (0,0))/\i.heap[w.heap.size+1]?=σ (ξ (jy (anN S)) 66 (0,0))/\i.heap.size=w.heap.size+2:=(by rw[<- hW];exact⟨((ah _ _).alloc (ae _) _).alloc (by simp) _,heap_alloc2_old w _ _,heap_alloc2_new w _ _,by show((w.heap.push _).push _).size=_;simp⟩);have z:(Value.slice ν 0 0).ownBlock=ν:=rfl;refine(afo (K:=Oth (w.heap.size+1) (ψ ν 0 0) i) (x:=anN S) b3 (HL.J.below l) (by omega) b rfl rfl rfl ⟨by omega,by omega,by simp[z]⟩ (λd=>d.2.1 rfl) (λd g=>g.1)).mono ?_;rintro P w1 ⟨rfl,x1,s1,e,Y,W⟩;have am:Rd (i,ψ ν 0 0) w1 (w.heap.size+1) (anN S) (ψ ν 0 0) (Mode.of (dv S 0)) 0:=
  ⟨⟨x1,[],s1.more ⟨ai (by omega) W.size,by omega,by simp[z]⟩ (λd g=>.inr ⟨g.2.1,by rw[Y];exact g.2.2,g.1⟩),⟨e.deep,e.word,e.names,e.kinds,e.rows,e.fD,⟨_,e.KU⟩,⟨_,e.KV⟩,⟨_,e.KW⟩,⟨_,e.KX⟩,_,e.cond⟩,Y,rfl⟩,⟨W,λa5 hg=>by cases hg⟩,by show w.heap.size+1<i.heap.size;omega⟩
 obtain⟨d,ap,bb,bc,_,c3,_,_,_,_,_,hw⟩:=am.tok;have HB:=au (λ(y:ω) (Q:υ) (hf:Fq (w.heap.size+1) (ψ ν 0 0) Q i y)=>(show y.heap[w.heap.size]?=σ (ξ #[θ ⟨#[]⟩,θ ⟨#[]⟩,ι κ 0,θ ⟨#[]⟩,ι κ 0,ψ ν 0 0,ψ ν 0 0,ψ ν 0 0,ι κ 0,ψ ν 0 0,ψ ν 0 0] 41 (0,0))/\aY (λd=>d<w.heap.size) w y from
  ⟨(hf.keeps.block w.heap.size ⟨by omega,by omega,by simp[z]⟩).trans b2,aY.trans (⟨l.os,l.tape,l.output,l.size,λd g=>l.block d g⟩:aY (λd=>d<w.heap.size) w i) (hf.keeps.mono (λd g=>⟨by omega,by omega,by simp[z]⟩))⟩))
 clear s1 W l b2 b3 hW e Y;go_wp2_with fail;refine(am.command ⟨rfl,rfl,rfl,rfl,rfl⟩ (by omega) c3).mono ?_;rintro P y ⟨rfl,c2,Q,n2,⟨t,f2⟩,al,mP,aa⟩;obtain⟨R,np⟩:=HB.J y Q t.fr;obtain⟨X,tt,ii,jj,e2,_,e4,_,ax,_,V,_⟩:=t.tok;have av:=au mP;have aq:=au aa;have ar:=au al;have EA:=au np;clear c3 f2 mP al np aa;by_cases g:(X:Int)=0
 .have A1:((X:Int) != 0)=false:=by rw[g];rfl
  obtain⟨j,k,c6,c7,U⟩:=t.ase;obtain⟨⟨A,B,D,E,F,G,H,I,K,L,C⟩,z0,z1,z2,z3,z4,z5,z6,z7,z8,z9,aC⟩:=Yf R;rcases U with⟨a,T⟩|⟨r,T⟩;{have f:=au (Ko b a);clear R a;go_wp2_with fail;go_region;all_goals (try go_wp2_with fail);(try simp only[Exit.inBlock,Exit.then]);refine aD (v:=.tuple #[χ #[θ ⟨#[]⟩,θ ⟨#[]⟩,ι κ 0,θ ⟨#[]⟩,ι κ 0,ψ ν 0 0,ψ ν 0 0,ψ ν 0 0,ι κ 0,ψ ν 0 0,ψ ν 0 0],ι κ j,ι κ k]) (by simp[results,results13,go_sem,A,B,D,E,F,G,H,I,K,L,C];try rfl) rfl ?_;exact⟨⟨_,_,_,_,_,_,_,_,_,_,_,_,_,_,_,_,_,_,_,_,_,j,k,rfl,by unfold Ic;rw[f.J];rfl,.inr f.J,λu b=>by rw[f.J]at b;cases b⟩,((((((((((((EA.J.setCell (p:=⟨w.heap.size,0,ν⟩) (bM _) _).setCell (p:=⟨w.heap.size,1,ν⟩) (bM _) _).setCell (p:=⟨w.heap.size,2,ν⟩) (bM _) _).setCell (p:=⟨w.heap.size,3,ν⟩) (bM _) _).setCell (p:=⟨w.heap.size,4,ν⟩) (bM _) _).setCell (p:=⟨w.heap.size,5,ν⟩) (bM _) _).setCell (p:=⟨w.heap.size,6,ν⟩) (bM _) _).setCell (p:=⟨w.heap.size,7,ν⟩) (bM _) _).setCell (p:=⟨w.heap.size,8,ν⟩) (bM _) _).setCell (p:=⟨w.heap.size,9,ν⟩) (bM _) _).setCell (p:=⟨w.heap.size,10,ν⟩) (bM _) _)).drew.below⟩}
  have jh:∃s x,(bO (Mode.of (dv S 0))).2=.live ⟨.stop,s⟩ x:=(by have O:=V.J r;cases a:(bO (Mode.of (dv S 0))).2 with|dead _ _=>rw[a]at r;exact r.elim|live tk x=>rw[a]at O;obtain⟨q,s⟩:=tk;cases q<;>simp only[nO,Mode.tk]at O;(case stop=>exact⟨s,x,rfl⟩);all_goals omega)
  obtain⟨s,x,a⟩:=jh;have f:=au (V9 b a);have HE:=au (aiU hw.J r);obtain⟨a1,a2,a3,a4,p5,n5,c5,p6,n6,ab,p7,n7,ac,a8,p9,Z,c9,ao,an,ad,g0,g1,g2,g3,g4,g5,g6,g7,g8,g9,a9⟩:=t.afn av.J ar.J;have HN:=au (show∀u,fg S=.inl (.query u)->Z=u.length fromλu N=>by
   rw[f.J]at N;obtain⟨a0,d,j⟩:=aq.J u (jt N);have M:=t.nw.2.2.2.1;rw[j,g9]at M
   injection M with M
   injection M)
  clear R a r;go_wp2_with fail;(try simp only[Exit.inBlock,Exit.then]);refine aD (v:=.tuple #[χ #[θ ap,θ a1,ι κ a2,θ a3,ι κ a4,ψ p5 n5 c5,ψ p6 n6 ab,ψ p7 n7 ac,ι κ a8,ψ p9 Z c9,ψ ao an ad],ι κ 0,ι κ 0]) (by simp[results,results13,go_sem,A,B,D,E,F,G,H,I,K,L,C];try rfl) rfl ?_;refine⟨⟨ap,a1,a2,a3,a4,p5,n5,c5,p6,n6,ab,p7,n7,ac,a8,p9,Z,c9,ao,an,ad,0,0,rfl,?_,.inl ⟨_,f.J,rfl⟩,HN.J⟩,(((((((((((EA.J.setCell (p:=⟨w.heap.size,0,ν⟩) (bM _) _).setCell (p:=⟨w.heap.size,1,ν⟩) (bM _) _).setCell (p:=⟨w.heap.size,2,ν⟩) (bM _) _).setCell (p:=⟨w.heap.size,3,ν⟩) (bM _) _).setCell (p:=⟨w.heap.size,4,ν⟩) (bM _) _).setCell (p:=⟨w.heap.size,5,ν⟩) (bM _) _).setCell (p:=⟨w.heap.size,6,ν⟩) (bM _) _).setCell (p:=⟨w.heap.size,7,ν⟩) (bM _) _).setCell (p:=⟨w.heap.size,8,ν⟩) (bM _) _).setCell (p:=⟨w.heap.size,9,ν⟩) (bM _) _).setCell (p:=⟨w.heap.size,10,ν⟩) (bM _) _).below⟩;rw[HE.J];unfold Ic;rw[f.J];cases(bO (Mode.of (dv S 0))).1<;>rfl
 have A1:((X:Int) != 0)=true:=by rw[jD];exact g
 go_wp2_with fail;refine(t.fail 2 ii (by decide) ax).mono ?_;rintro P w3 ⟨rfl,h3,f3⟩;obtain⟨iw,AX⟩:=HB.J w3 Q h3.fr;obtain⟨j,k,c6,c7,U⟩:=h3.ase;have FT:=au AX;obtain⟨⟨A,B,D,E,F,G,H,I,K,L,C⟩,z0,z1,z2,z3,z4,z5,z6,z7,z8,z9,aC⟩:=Yf iw;rcases U with⟨a,T⟩|⟨r,T⟩
 .have hr:fg S=.inr (j,k):=by
   cases Ik:(bO (Mode.of (dv S 0))).2 with
   |dead e' b'=>rw[Ik]at a;exact Ko b (Ik.trans a)
   |live tk x=>
    rw[Ik]at a V;have O:=V.J trivial;obtain⟨q,s⟩:=tk;have Df:Mode.dead 2 s=.dead j k:=a;injection Df with q1 q2
    rw[Wa b (k:=q) (pl:=s) (ts:=x) (λN=>by subst N;simp only[nO,Mode.tk]at O;omega) Ik,q1,q2]
  have f:=au hr;clear iw AX a hr e2 e4;go_wp2_with fail;go_region;all_goals (try go_wp2_with fail);(try simp only[Exit.inBlock,Exit.then]);refine aD (v:=.tuple #[χ #[θ ⟨#[]⟩,θ ⟨#[]⟩,ι κ 0,θ ⟨#[]⟩,ι κ 0,ψ ν 0 0,ψ ν 0 0,ψ ν 0 0,ι κ 0,ψ ν 0 0,ψ ν 0 0],ι κ j,ι κ k]) (by simp[results,results13,go_sem,A,B,D,E,F,G,H,I,K,L,C];try rfl) rfl ?_;exact⟨⟨_,_,_,_,_,_,_,_,_,_,_,_,_,_,_,_,_,_,_,_,_,j,k,rfl,by unfold Ic;rw[f.J];rfl,.inr f.J,λu b=>by rw[f.J]at b;cases b⟩,((((((((((((FT.J.setCell (p:=⟨w.heap.size,0,ν⟩) (bM _) _).setCell (p:=⟨w.heap.size,1,ν⟩) (bM _) _).setCell (p:=⟨w.heap.size,2,ν⟩) (bM _) _).setCell (p:=⟨w.heap.size,3,ν⟩) (bM _) _).setCell (p:=⟨w.heap.size,4,ν⟩) (bM _) _).setCell (p:=⟨w.heap.size,5,ν⟩) (bM _) _).setCell (p:=⟨w.heap.size,6,ν⟩) (bM _) _).setCell (p:=⟨w.heap.size,7,ν⟩) (bM _) _).setCell (p:=⟨w.heap.size,8,ν⟩) (bM _) _).setCell (p:=⟨w.heap.size,9,ν⟩) (bM _) _).setCell (p:=⟨w.heap.size,10,ν⟩) (bM _) _)).drew.below⟩
 exact absurd r (dz _ 2)
