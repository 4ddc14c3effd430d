import Derived.Test.YtcoaphfimellcaaGreatDoorQAF
set_option maxHeartbeats 0
set_option maxRecDepth 100000
namespace Go.Proofs.YtcoaphfimellcaaGreatDoor
open Go.RowKit
open _root_.Go.Proofs.Tryz
open Option renaming some→σ,none→ν
open Go.IntKind renaming i64→κ
open Go.Ending renaming returned→τ
open Go.Obj renaming cells→ξ
open Go renaming World→ω,Value→υ
open Go.Value renaming int→ι,string→θ,slice→ψ,pointer→π,agg→χ
variable{x:ByteArray}{l:Nat}{i:Int}
theorem Tryz.ac0:(prog.info? 161).map (λd=>(d.zero,d.size,d.bytes))=σ (σ (χ #[θ ByteArray.empty,ι κ 0,θ ByteArray.empty,ι κ 0,θ ByteArray.empty,ι κ 0,.bool false]),7,80):=by kernel_rfl
def zC(m:Mode):List Nm×Mode:=match m.tk with
 |.name _=>jK m
 |_=>([],m)
theorem apz{m:Mode}{e:Nat}(g:m.alive->nr l x i m.tk)(d:(m.alive/\((e:Int)==0)=true)\/(¬m.alive/\((e:Int)==0)=false)) :
 (((e:Int)==0)=true/\((l:Int)==97)=true/\(zC m).2=(jK m).2)\/(((e:Int)==0)=true/\((l:Int)==97)=false/\(zC m).2=m)\/(((e:Int)==0)=false/\(zC m).2=m):=by
 rcases d with⟨f,d⟩|⟨f,d⟩
 .have j:=g f
  cases m with
  |dead _ _=>exact f.elim
  |live tk r=>
    obtain⟨k,s⟩:=tk
    cases k<;>simp only[nr,Mode.tk]at j
    case name=>exact .inl ⟨d,by rw[dC];omega,rfl⟩
    all_goals exact .inr (.inl ⟨d,by rw[aL];omega,rfl⟩)
 refine .inr (.inr ⟨d,?_⟩)
 cases m with
 |dead _ _=>rfl
 |live tk r=>exact absurd trivial f
section
variable {o:ω×υ} {w w':ω} {p b:Nat} {c:fQ} {v:υ} {m:Mode} {n:Nat} {X:Item} {a:SV}
theorem St.grouped(S0:St o w p c v m n [.box b (sx a) 95,X])(hm:m.len<=600)(h2:a.k=(ν,0,0)):Calls prog 55 #[π (σ ⟨p,0,ν⟩),π (σ ⟨b,0,ν⟩)] w λR w'=>
 R=τ (.tuple #[])/\∃a':SV,St o w' p c v (dc ku ((zC m).2.take iB)).2 n [.box b (sx a') 95,X]:=by obtain⟨i0,hi,lC,lI,kQ⟩:=info_parts Tryz.ac0;have SA:St o w p c v m n [.box b (sx { a with k:=(ν,0,0) }) 95,X]:=(by have ac:{ a with k:=(ν,0,0) }=a:=(by cases a;cases h2;rfl);rw[ac];exact S0);obtain⟨aC,a0,av,ax,c2,c3,c4,c5,_,_,ht,_⟩:=S0.rd.tok;obtain⟨ac,c6,he⟩:=S0.rd.err;have V:=DL m;rcases apz ht.J he with⟨e0,k0,L⟩|⟨e0,k0,L⟩|⟨e0,L⟩;(case' inl=>have HK:=ak L;clear L he ht;go_in;go_wp2_with fail;refine(SA.rd.names hm).mono ?_;rintro R w9 ⟨na,nq,nk,rfl,h9,f9⟩;have S9:=SA.call h9 f9;have ap:w9.cell? ⟨b,4,ν⟩=σ (.slice a.n.1 a.n.2.1 a.n.2.2):=cX S9.box 4;have z4:=bX S9.box 4;obtain⟨e,K⟩:=nm ({ a with n:=(na,nq,nk) }:SV);have Sx:St o (w9.setCell ⟨b,4,ν⟩ (ψ na nq nk)) p c v (jK m).2 n [.box b (sx { e with k:=(ν,0,0) }) 95,X]:=(by rw[K];exact S9.put 4 (ψ na nq nk));clear K;go_wp2_with fail;generalize (jK m).2=mk at Sx V HK);(case' inr.inl=>obtain⟨mk,G⟩:∃mk,m=mk:=⟨_,rfl⟩;obtain⟨e,K⟩:∃e:SV,a=e:=⟨_,rfl⟩;have HK:=ak (L.trans G);have Sx:=SA;rw[G,K]at Sx;clear V;have V:mk.len<=m.len:=(by rw[G];exact ae _);clear L he ht G K;go_in;go_wp2_with fail);(case' inr.inr=>obtain⟨mk,G⟩:∃mk,m=mk:=⟨_,rfl⟩;obtain⟨e,K⟩:∃e:SV,a=e:=⟨_,rfl⟩;have HK:=ak (L.trans G);have Sx:=SA;rw[G,K]at Sx;clear V;have V:mk.len<=m.len:=(by rw[G];exact ae _);clear L he ht G K;go_in;go_wp2_with fail);all_goals(refine(Sx.rd.take _).mono ?_;rintro R wa ⟨_,rfl,ad,fa⟩;have ha:Rd o wa p c v (mk.take iB) n:=ad;have ar:=take_len mk iB;clear ad c2 c3 c4 c5 c6;go_wp2_with fail;refine(ha.made).mono ?_;rintro R i ⟨z,A,B,C,D,E,F,rfl,DF,f2⟩;have FJ:=I8 (mk.take iB);have j:=(((Sx.call ha fa).call DF f2).nil 161 7).new #[θ z,ι κ A,θ B,ι κ C,θ D,ι κ E,.bool F] 161;obtain⟨d,P⟩:=nm (i.alloc (ξ #[θ z,ι κ A,θ B,ι κ C,θ D,ι κ E,.bool F] 161 (0,0)));rw[<- P]at j;have ab:d.cell? ⟨b,11,ν⟩=σ (ψ ν 0 0):=cX j.drop.drop.box 11;obtain⟨m0,m1,m2,m3,m4,m5,m6⟩:=gb j.box;have an:=(cW.mp j.drop.drop.box).1;have I:=((j.alloc (ξ #[θ z,ι κ A,θ B,ι κ C,θ D,ι κ E,.bool F] 161)).drew).lO;obtain⟨xs,own⟩:=I.row;have uk:=ak own;have uj:=ak (World.news_of_block (w:=(d.alloc (ξ #[θ z,ι κ A,θ B,ι κ C,θ D,ι κ E,.bool F] 161 (0,0))).drew) (B:=d.heap.size) (au d (ξ #[θ z,ι κ A,θ B,ι κ C,θ D,ι κ E,.bool F] 161 (0,0))));have T:=ak (show(d.alloc (ξ #[θ z,ι κ A,θ B,ι κ C,θ D,ι κ E,.bool F] 161 (0,0))).drew.heap.size=d.heap.size+1 by show(d.heap.push _).size=_;rw[dM]);have yl:=ak I.rd.fr.keeps.size;have H1:=ak (show∀aa∈[Value.string z,ι κ A,θ B,ι κ C,θ D,ι κ E,.bool F],aa.oneCell'=true by intro aa Z;simp at Z;rcases Z with rfl|rfl|rfl|rfl|rfl|rfl|rfl<;>rfl);have Yz:=ak P;clear own P;go_wp2_with fail;rw[<- Yz.J];go_region_law(refine step_append_lies _ rfl (.tmp 31) (.tmp 33) 92 rfl o.1.heap.size 161 i0 _ 7 80 underlying92 hi lC lI kQ rfl (by decide) _ _ _ (by simp[Act.eval]) uk.J ⟨d.heap.size,0,ν⟩ 1 1 [θ z,ι κ A,θ B,ι κ C,θ D,ι κ E,.bool F] (by simp[Act.eval]) rfl uj.J H1.J (by decide) (by unfold maxLen;omega) (by omega) yl.J (d.heap.size+1) T.J ?_;intro f k U nU sC wK _;have H:=I.app nU sC (by rw[T.J];rcases wK with Y|Y;exact .inl Y;exact .inr (by omega));have al:U.cell? ⟨b,11,ν⟩=σ (ψ ν 0 0):=cX H.drop.box 11;have kf:=bX H.drop.box 11;clear nU sC wK);all_goals(have W:St o (U.setCell ⟨b,11,ν⟩ (ψ (σ ⟨f,0,ν⟩) (0+1) k)) p c v (ku (mk.take iB)).2 n [.box b (sx { e with k:=(σ ⟨f,0,ν⟩,0+1,k) }) 95,X,.box i.heap.size #[θ z,ι κ A,θ B,ι κ C,θ D,ι κ E,.bool F] 161,.row (ψ (σ ⟨f,0,ν⟩) (0+1) k) 161 7 (0+1)]:=H.lO.put 11 (ψ (σ ⟨f,0,ν⟩) (0+1) k);clear m0 m1 m2 m3 m4 m5 m6 ab;go_wp2_with fail;clear al kf;go_loopw[] (λwr=>∃(g:Mode) (M:Option Addr) (N q Q:Nat) (am:List Zp) (x1 x2 x3 x4 x5 x6 x7:υ),St o wr p c v g n [.box b (sx { e with k:=(M,q,N) }) 95,X,.box i.heap.size #[x1,x2,x3,x4,x5,x6,x7] 161,.row (ψ M q N) 161 7 q]/\g.len<=Q/\q+g.len<=m.len+1/\Hid (jT ku Q am g=dc ku (mk.take iB))) (λwr=>2000 - lenOf ((wr.cell? ⟨b,11,ν⟩).getD undef));(case atStart=>exact⟨(ku (mk.take iB)).2,_,_,0+1,_,[(ku (mk.take iB)).1],_,_,_,_,_,_,_,W,ae _,by omega,ak rfl⟩);case round=>clear uk uj T Yz yl H1 W H I j;obtain⟨g,M,N,q,Q,am,x1,x2,x3,x4,x5,x6,x7,S,aq,wL,HC⟩:=hrel;have zX:lenOf ((wr.cell? ⟨b,11,ν⟩).getD undef)=q:=(by rw[cX S.box 11];rfl);cases ic:g.is (ByteArray.mk #[44]);{have HF:=ak (show(dc ku ((zC m).2.take iB)).2=g by rw[HK.J,<- HC.J,qU (show g.is qa=false from ic)]);go_wp2_with(go_at_call 35;refine(S.rd.is _).mono ?_;rintro r' w' ⟨rfl,rfl⟩);go_end0;refine⟨rfl,{ e with k:=(M,q,N) },?_⟩;rw[HF.J];exact S.lO.lO.drop.drop};obtain⟨e3,e4,e5⟩:=S.rd.live ic;obtain⟨Q,rfl⟩:∃f,Q=f+1:=⟨Q - 1,by omega⟩;have uA:=ak (qT HC.J (show g.is qa=true from ic));go_wp2_with(go_at_call 35;refine(S.rd.is _).mono ?_;rintro r' w' ⟨rfl,rfl⟩);refine(S.rd.next e4).mono ?_;rintro R w3 ⟨rfl,h3,f3⟩;go_wp2_with fail;refine(h3.made).mono ?_;rintro R w4 ⟨l,r,s,t,u,x,y,rfl,h4,f4⟩;have ao:=I8 g.next;have S4:=((S.call h3 f3).call h4 f4).lO.lO;obtain⟨u0,u1,u2,u3,u4,u5,u6⟩:=gb S4.box;have O:=bX S4.box;have z0:=O 0;have z1:=O 1;have z2:=O 2;have z3:=O 3;have a2:=O 4;have z5:=O 5;have z6:=O 6;have S5:=((((((S4.put 0 (θ l)).put 1 (ι κ r)).put 2 (θ s)).put 3 (ι κ t)).put 4 (θ u)).put 5 (ι κ x)).put 6 (.bool y);obtain⟨d,P⟩:=nm (((((((w4.setCell ⟨i.heap.size,0,ν⟩ (θ l)).setCell ⟨i.heap.size,1,ν⟩ (ι κ r)).setCell ⟨i.heap.size,2,ν⟩ (θ s)).setCell ⟨i.heap.size,3,ν⟩ (ι κ t)).setCell ⟨i.heap.size,4,ν⟩ (θ u)).setCell ⟨i.heap.size,5,ν⟩ (ι κ x)).setCell ⟨i.heap.size,6,ν⟩ (.bool y));rw[<- P]at S5;have j:St o d p c v (ku g.next).2 n [.box i.heap.size #[θ l,ι κ r,θ s,ι κ t,θ u,ι κ x,.bool y] 161,.row (ψ M q N) 161 7 q,.box b (sx { e with k:=(M,q,N) }) 95,X]:=S5;clear O;have ab:d.cell? ⟨b,11,ν⟩=σ (ψ M q N):=cX j.drop.drop.box 11;obtain⟨m0,m1,m2,m3,m4,m5,m6⟩:=gb j.box;have an:=(cW.mp j.drop.drop.box).1;have I:=((j.alloc (ξ #[θ l,ι κ r,θ s,ι κ t,θ u,ι κ x,.bool y] 161)).drew).lO;obtain⟨xs,own⟩:=I.row;have uk:=ak own;have uj:=ak (World.news_of_block (w:=(d.alloc (ξ #[θ l,ι κ r,θ s,ι κ t,θ u,ι κ x,.bool y] 161 (0,0))).drew) (B:=d.heap.size) (au d (ξ #[θ l,ι κ r,θ s,ι κ t,θ u,ι κ x,.bool y] 161 (0,0))));have T:=ak (show(d.alloc (ξ #[θ l,ι κ r,θ s,ι κ t,θ u,ι κ x,.bool y] 161 (0,0))).drew.heap.size=d.heap.size+1 by show(d.heap.push _).size=_;rw[dM]);have yl:=ak I.rd.fr.keeps.size;have H1:=ak (show∀aa∈[Value.string l,ι κ r,θ s,ι κ t,θ u,ι κ x,.bool y],aa.oneCell'=true by intro aa Z;simp at Z;rcases Z with rfl|rfl|rfl|rfl|rfl|rfl|rfl<;>rfl);have Yz:=ak P;clear own P;go_wp2_with fail;rw[<- Yz.J];go_region_law(refine step_append_lies _ rfl (.tmp 47) (.tmp 49) 92 rfl o.1.heap.size 161 i0 _ 7 80 underlying92 hi lC lI kQ rfl (by decide) _ _ _ (by simp[Act.eval]) uk.J ⟨d.heap.size,0,ν⟩ 1 1 [θ l,ι κ r,θ s,ι κ t,θ u,ι κ x,.bool y] (by simp[Act.eval]) rfl uj.J H1.J (by decide) (by unfold maxLen;omega) (by omega) yl.J (d.heap.size+1) T.J ?_;intro f k U nU sC wK _;have H:=I.app nU sC (by rw[T.J];rcases wK with Y|Y;exact .inl Y;exact .inr (by omega));have al:U.cell? ⟨b,11,ν⟩=σ (ψ M q N):=cX H.drop.box 11;have kf:=bX H.drop.box 11;clear nU sC wK);all_goals(have W:St o (U.setCell ⟨b,11,ν⟩ (ψ (σ ⟨f,0,ν⟩) (q+1) k)) p c v (ku g.next).2 n [.box b (sx { e with k:=(σ ⟨f,0,ν⟩,q+1,k) }) 95,X,.box i.heap.size #[θ l,ι κ r,θ s,ι κ t,θ u,ι κ x,.bool y] 161,.row (ψ (σ ⟨f,0,ν⟩) (q+1) k) 161 7 (q+1)]:=H.lO.put 11 (ψ (σ ⟨f,0,ν⟩) (q+1) k);have Yy:lenOf (((U.setCell ⟨b,11,ν⟩ (ψ (σ ⟨f,0,ν⟩) (q+1) k)).cell? ⟨b,11,ν⟩).getD undef)=q+1:=(by rw[cX W.box 11];rfl);go_wp2_with fail;go_roundw;(case rel=>exact⟨_,_,_,q+1,Q,_,_,_,_,_,_,_,_,W,by omega,by omega,uA⟩);case measure=>rw[Yy,zX];omega)))
end
def rD(t:ByteArray)(i:Int):SV:=⟨t,i,⟨#[]⟩,0,(ν,0,0),(ν,0,0),⟨#[]⟩,0,⟨#[]⟩,0,0,(ν,0,0),(ν,0,0),0⟩
abbrev aW:ByteArray:=⟨#[119,104,101,114,101]⟩
abbrev aM:ByteArray:=⟨#[109,97,112]⟩
abbrev aJ:ByteArray:=⟨#[106,111,105,110]⟩
abbrev aG:ByteArray:=⟨#[103,114,111,117,112]⟩
abbrev aO:ByteArray:=⟨#[111,114,100,101,114]⟩
theorem xG{w:ω}{b:Nat}{a:SV}{e:TypeId}(d:w.heap[b]?=σ (ξ (sx a) e (0,0))):w.cell? ⟨b,0,ν⟩=σ (θ a.w)/\w.cell? ⟨b,1,ν⟩=σ (ι κ a.i)/\w.cell? ⟨b,2,ν⟩=σ (θ a.t)/\w.cell? ⟨b,3,ν⟩=σ (ι κ a.j)/\w.cell? ⟨b,4,ν⟩=σ (.slice a.n.1 a.n.2.1 a.n.2.2)/\w.cell? ⟨b,5,ν⟩=σ (.slice a.e.1 a.e.2.1 a.e.2.2)/\w.cell? ⟨b,6,ν⟩=σ (θ a.l)/\w.cell? ⟨b,7,ν⟩=σ (ι κ a.li)/\w.cell? ⟨b,8,ν⟩=σ (θ a.r)/\w.cell? ⟨b,9,ν⟩=σ (ι κ a.ri)/\w.cell? ⟨b,10,ν⟩=σ (ι κ a.eq)/\w.cell? ⟨b,11,ν⟩=σ (.slice a.k.1 a.k.2.1 a.k.2.2)/\w.cell? ⟨b,12,ν⟩=σ (.slice a.d.1 a.d.2.1 a.d.2.2)/\w.cell? ⟨b,13,ν⟩=σ (ι κ a.x):=
 ⟨cX d 0,cX d 1,cX d 2,cX d 3,cX d 4,cX d 5,cX d 6,cX d 7,cX d 8,cX d 9,cX d 10,cX d 11,cX d 12,cX d 13⟩
theorem or5(a b c d e:Bool):(a=false/\b=false/\c=false/\d=false/\e=false)\/a=true\/(a=false/\b=true)\/(a=false/\b=false/\c=true)\/(a=false/\b=false/\c=false/\d=true)\/(a=false/\b=false/\c=false/\d=false/\e=true):=by cases a<;>cases b<;>cases c<;>cases d<;>cases e<;>simp
section
variable {m:Mode}
theorem agi(r:m.is aW=false)(s:m.is aM=false)(t:m.is aJ=false)(u:m.is aG=false)(y:m.is aO=false)(e:(m.take ej).alive->nr l x i (m.take ej).tk) :
 (((l:Int)==110)=true/\(dp m).2=(m.take ej).next/\∀x g,m.take ej=.live x g->x.k.ends=false)\/(((l:Int)==110)=false/\(dp m).2=(m.take ej).wrong 2):=by
 have j:dp m=(match(m.take ej).tk with
  |.num n=>({ bare ej m.place with n:=n },(m.take ej).next)
  |_=>(bare ej m.place,(m.take ej).wrong 2)):=by
  unfold dp;rw[show m.is kH=_ from r,show m.is r9=_ from s,show m.is xP=_ from t,show m.is ti=_ from u,show m.is uV=_ from y]<;>rfl
 rw[j];generalize m.take ej=m1 at e
 cases m1 with
 |dead d b=>
   by_cases f:(l:Int)=110
   . exact .inl ⟨by rw[dC];exact f,rfl,λ_ _ d=>by cases d⟩
   . exact .inr ⟨by rw[aL];exact f,rfl⟩
 |live tk g=>
   have k:=e trivial;obtain⟨z,A⟩:=tk
   cases z<;>simp only[nr,Mode.tk]at k
   case num=>exact .inl ⟨by rw[dC];omega,rfl,λ_ _ d=>by cases d;rfl⟩
   all_goals exact .inr ⟨by rw[aL];omega,rfl⟩
end
section
variable {o:ω×υ} {w w':ω} {p:Nat} {c:fQ} {v:υ} {m:Mode} {n:Nat}
def Qg(o:ω×υ)(w:ω)(p:Nat)(c:fQ)(v:υ)(m:Mode)(n:Nat)(r:Ending)(w':ω):Prop:=
 ∃(a:SV) (v':υ) (n':Nat),r=τ (.agg (sx a))/\(Rd o w' p c v' (dp m).2 n'/\Fq p v v' w w')/\n<=n'/\n'+(dp m).2.len<=n+m.len+(dp m).2.due/\(dp m).2.len<=m.len
theorem ac2(C:Rd o w p c v m n)(hd:c.deep=0)(hm:n+m.len<=600)(e:m.is aW=true\/m.is aW=false/\m.is aM=true\/m.is aW=false/\m.is aM=false/\m.is aJ=true):Calls prog 41 #[π (σ ⟨p,0,ν⟩)] w (Qg o w p c v m n):=by
 obtain⟨a6,k,j,a5,c2,c3,c4,c5,hi,_,_,_⟩:=C.tok;have cL:=C.lt;go_in;go_wp2_with fail;go_region;go_wp2_with fail;generalize hW:World.drew _=W;have S:St (w,v) W p c v m n [.box (w.heap.size+1) (sx (rD k j)) 95,.box w.heap.size (sx (rD ⟨#[]⟩ 0)) 95]:=(by rw[<- hW];exact(C.start.vm _ _ _ _).drew);clear hW c2 c3 c4 c5;have am:=((S.ok _ (.head _)).2 _ rfl).1;have ax:=λan=>am (Eq.symm an);have a4:=dr (m:=m);have a3:=uY m;rcases e with e|⟨Q,e⟩|⟨Q,i1,e⟩
 all_goals
  go_wp2_with(go_at_call 35;refine(S.rd.is _).mono ?_;rintro r' w' ⟨rfl,rfl⟩);refine(S.rd.next (S.rd.live e).2.1).mono ?_;rintro g wa ⟨rfl,P,fa⟩;have L:=S.call P fa;go_wp2_with fail;first
   | (refine(Nc _ wa p c v m.next n P (by omega) (by omega)).mono ?_
      rintro g l ⟨vb,G,kb,rfl,N,O,M⟩;have H:=ak (show(dp m).2=(mO (lvl 8) m.next).2 by unfold dp;rw[show m.is kH=_ from e]<;>rfl);have z:=(L.call N O);have d:=z.alloc (ξ #[ι κ kb] 3);obtain⟨i,f⟩:=nm ({ rD k j with e:=(σ ⟨l.heap.size,0,ν⟩,1,1) });have B:St (w,v) ((l.alloc (ξ #[ι κ kb] 3)).setCell ⟨w.heap.size+1,5,ν⟩ (ψ (σ ⟨l.heap.size,0,ν⟩) 1 1)) p c vb (mO (lvl 8) m.next).2 G [.box (w.heap.size+1) (sx i) 95,.box w.heap.size (sx (rD ⟨#[]⟩ 0)) 95]:=by rw[f];exact d.put 5 (ψ (σ ⟨l.heap.size,0,ν⟩) 1 1)
      have I:=ak f;clear f;have av:=M.len;have al:=M.bud;have F:=fL M.gr;have D:(mO (lvl 8) m.next).2.len<=m.len:=by omega
      have x:G+(mO (lvl 8) m.next).2.len<=n+m.len+(mO (lvl 8) m.next).2.due:=by omega)
   | (refine(L.mapped hd (by omega) rfl rfl).mono ?_
      rintro g l ⟨rfl,vb,G,i,B,F,al⟩;have H:=ak (show(dp m).2=(dc eL m.next).2 by unfold dp;rw[show m.is kH=_ from Q,show m.is r9=_ from e]<;>rfl);have d:=B;have I:=ak (Eq.refl i);have av:(dc eL m.next).2.len<=m.next.len:=by
       by_cases hx:(dc eL m.next).2.alive
       . rw[rI hx]at al;omega
       . rw[(oV hx).1];omega
      have D:(dc eL m.next).2.len<=m.len:=by omega
      have x:G+(dc eL m.next).2.len<=n+m.len+(dc eL m.next).2.due:=by omega)
   | (refine(P.name).mono ?_
      rintro g l ⟨t,r,rfl,N,O⟩;have H:=ak (show(dp m).2=((m.next.name.2.take yr).name.2.take xO).name.2 by unfold dp;rw[show m.is kH=_ from Q,show m.is r9=_ from i1,show m.is xP=_ from e]<;>rfl);have y:=L.call N O;obtain⟨_,_,e2,e3,_⟩:=xG y.box;have f2:=bX y.box 2;have f3:=bX y.box 3;have z:=(y.put 2 (θ t)).put 3 (ι κ r);go_wp2_with fail;refine(z.rd.take _).mono ?_;rintro g wc ⟨_,rfl,U,fc⟩;go_wp2_with fail;refine(U.name).mono ?_;rintro g wd ⟨u,s,rfl,ar,fd⟩;have A:St (w,v) wd p c v (m.next.name.2.take yr).name.2 n [.box (w.heap.size+1) (sx { rD k j with t:=t,j:=r }) 95,.box w.heap.size (sx (rD ⟨#[]⟩ 0)) 95]:=(z.call U fc).call ar fd;obtain⟨_,_,_,_,_,_,e6,e7,_⟩:=xG A.box;have f6:=bX A.box 6;have f7:=bX A.box 7;have V:St (w,v) ((wd.setCell ⟨w.heap.size+1,6,ν⟩ (θ u)).setCell ⟨w.heap.size+1,7,ν⟩ (ι κ s)) p c v (m.next.name.2.take yr).name.2 n [.box (w.heap.size+1) (sx { rD k j with t:=t,j:=r,l:=u,li:=s }) 95,.box w.heap.size (sx (rD ⟨#[]⟩ 0)) 95]:=(A.put 6 (θ u)).put 7 (ι κ s);clear e2 e3 f2 f3;go_wp2_with fail;refine(V.rd.take _).mono ?_;rintro g we ⟨E,rfl,ZD,fe⟩;have K:=V.call ZD fe;have ao:we.cell? ⟨w.heap.size+1,10,ν⟩=σ (ι κ 0):=cX K.box 10;have ap:=bX K.box 10;have Y:St (w,v) (we.setCell ⟨w.heap.size+1,10,ν⟩ (ι κ E)) p c v ((m.next.name.2.take yr).name.2.take xO) n [.box (w.heap.size+1) (sx { rD k j with t:=t,j:=r,l:=u,li:=s,eq:=E }) 95,.box w.heap.size (sx (rD ⟨#[]⟩ 0)) 95]:=K.put 10 (ι κ E);clear e6 e7 f6 f7;go_wp2_with fail;refine(Y.rd.name).mono ?_;rintro g wf ⟨T,R,rfl,Lr,ff⟩;have d:=Y.call Lr ff;obtain⟨i,f⟩:=nm ({ rD k j with t:=t,j:=r,l:=u,li:=s,eq:=E,r:=T,ri:=R });have B:St (w,v) ((wf.setCell ⟨w.heap.size+1,8,ν⟩ (θ T)).setCell ⟨w.heap.size+1,9,ν⟩ (ι κ R)) p c v ((m.next.name.2.take yr).name.2.take xO).name.2 n [.box (w.heap.size+1) (sx i) 95,.box w.heap.size (sx (rD ⟨#[]⟩ 0)) 95]:=by rw[f];exact(d.put 8 (θ T)).put 9 (ι κ R)
      have I:=ak f;clear f ao ap;have l1:=dI m.next;have l2:=take_len m.next.name.2 yr;have l3:=dI (m.next.name.2.take yr);have l4:=take_len (m.next.name.2.take yr).name.2 xO;have l5:=dI ((m.next.name.2.take yr).name.2.take xO);have F:=ae n;have D:((m.next.name.2.take yr).name.2.take xO).name.2.len<=m.len:=by omega
      have x:n+((m.next.name.2.take yr).name.2.take xO).name.2.len<=n+m.len+((m.next.name.2.take yr).name.2.take xO).name.2.due:=by omega
      clear l1 l2 l3 l4 l5)
 all_goals(obtain⟨g0,g1,g2,g3,g4,g5,g6,g7,g8,g9,aC,a0,a1,a2⟩:=xG d.box;obtain⟨Z,d1,d2,d3,d4,d5,d6,d7,d8,d9,aa,ab,ac,ad⟩:=xG d.drop.box;have a9:=bX d.drop.box;have a8:=bX d.box;simp only[rD]at Z d1 d2 d3 d4 d5 d6 d7 d8 d9 aa ab ac ad;have HB:=ak (And.intro F (And.intro x D));clear F x D;go_wp2_with fail;(try simp only[Exit.inBlock,Exit.then]);refine aB (v:=_) (by simp[results,results41,go_sem,Z,d1,d2,d3,d4,d5,d6,d7,d8,d9,aa,ab,ac,ad];rfl) rfl ?_;unfold Qg;rw[H.J];refine⟨i,_,_,?_,((((((((((((((B.lO.put 0 _).put 1 _).put 2 _).put 3 _).put 4 _).put 5 _).put 6 _).put 7 _).put 8 _).put 9 _).put 10 _).put 11 _).put 12 _).put 13 _).fin C,HB.J⟩;first|rfl|(rw[I.J];rfl))
theorem ac3(x:Rd o w p c v m n)(hm:n+m.len<=600)(G:m.is aW=false)(H:m.is aM=false)(I:m.is aJ=false):Calls prog 41 #[π (σ ⟨p,0,ν⟩)] w (Qg o w p c v m n):=by
 obtain⟨a6,N,F,a5,c2,c3,c4,c5,hi,_,_,_⟩:=x.tok;have cL:=x.lt;go_in;go_wp2_with fail;go_region;go_wp2_with fail;generalize hW:World.drew _=W;have S:St (w,v) W p c v m n [.box (w.heap.size+1) (sx (rD N F)) 95,.box w.heap.size (sx (rD ⟨#[]⟩ 0)) 95]:=(by rw[<- hW];exact(x.start.vm _ _ _ _).drew);clear hW c2 c3 c4 c5;have an:=((S.ok _ (.head _)).2 _ rfl).1;have av:=λao=>an (Eq.symm ao);have a3:=dr (m:=m);have a2:=uY m;rcases(show(m.is aG=false/\m.is aO=false)\/m.is aG=true\/m.is aG=false/\m.is aO=true by cases m.is aG<;>cases m.is aO<;>simp)with⟨K,i4⟩|A|⟨K,A⟩
 all_goals
  go_wp2_with(go_at_call 35;refine(S.rd.is _).mono ?_;rintro r' w' ⟨rfl,rfl⟩);first
   | (refine(S.rd.take _).mono ?_
      rintro g z ⟨_,rfl,ad,C⟩;have y:Rd (w,v) z p c v (m.take ej) n:=ad;have B:=S.call y C;obtain⟨k',t',i',L,Q,R,T,U,Jg,_,ap,_⟩:=y.tok;have am:z.cell? ⟨w.heap.size+1,13,ν⟩=σ (ι κ 0):=cX B.box 13;have qf:=bX B.box 13;have j:St (w,v) (z.setCell ⟨w.heap.size+1,13,ν⟩ (ι κ L)) p c v (m.take ej) n [.box (w.heap.size+1) (sx { rD N F with x:=L }) 95,.box w.heap.size (sx (rD ⟨#[]⟩ 0)) 95]:=B.put 13 _;have a4:=take_len m ej;clear ad;obtain⟨f,al⟩:=nm ({ rD N F with x:=L });rw[<- al]at j;clear al;rcases agi G H I K i4 ap.J with⟨M,l,he⟩|⟨M,l⟩
      case' inl=>
       have k2:((k':Int) != 110)=false:=by rw[bne,M];rfl
       have s:=ak l;clear l;go_wp2_with fail;refine(j.rd.next he).mono ?_;rintro g O ⟨rfl,u,D⟩;have d:=j.call u D;have e:=d;have t:=ak (Eq.refl f);have E:=dr (m:=m.take ej);have r:=ae n;have k:(m.take ej).next.len<=m.len:=by omega
       have i:n+(m.take ej).next.len<=n+m.len+(m.take ej).next.due:=by omega
       clear Q R T U am qf
      case' inr=>
       have k2:((k':Int) != 110)=true:=by rw[bne,M];rfl
       have s:=ak (l.trans (BZ (m.take ej) 2).symm);clear l;go_wp2_with fail;refine(j.rd.fail 2 i' (by decide) Jg).mono ?_;rintro g O ⟨rfl,u,D⟩;go_wp2_with fail;refine(u.next (EB (di (m.take ej) 2))).mono ?_;rintro g wc ⟨rfl,Qv,fc⟩;have d:=(j.call u D).call Qv fc;have e:=d;have t:=ak (Eq.refl f);have E:=dr (m:=(m.take ej).wrong 2);have ar:=(oV (di (m.take ej) 2)).1;have r:=ae n;have k:((m.take ej).wrong 2).next.len<=m.len:=by omega
       have i:n+((m.take ej).wrong 2).next.len<=n+m.len+((m.take ej).wrong 2).next.due:=by omega
       clear Q R T U am qf)
   | (refine(S.rd.next (S.rd.live A).2.1).mono ?_
      rintro g z ⟨rfl,y,C⟩;have P:=S.call y C;go_wp2_with fail
      first
       | (refine(P.grouped (by omega) rfl).mono ?_
          rintro g O ⟨rfl,f,d⟩;have s:=ak (show(dp m).2=(dc ku ((zC m.next).2.take iB)).2 by unfold dp;rw[show m.is kH=_ from G,show m.is r9=_ from H,show m.is xP=_ from I,show m.is ti=_ from A]<;>rfl);have e:=d;have t:=ak (Eq.refl f);have r:=ae n;have E:(dc ku ((zC m.next).2.take iB)).2.len<=m.next.len:=by
           refine ag (od I8 _) (ag (take_len _ _) ?_);unfold zC;split
           . exact DL _
           . exact ae _
          have k:(dc ku ((zC m.next).2.take iB)).2.len<=m.len:=by omega
          have i:n+(dc ku ((zC m.next).2.take iB)).2.len<=n+m.len+(dc ku ((zC m.next).2.take iB)).2.due:=by omega)
       | (refine(P.ordered (by omega) rfl rfl).mono ?_
          rintro g O ⟨rfl,f,d⟩;have s:=ak (show(dp m).2=(dc ek m.next).2 by unfold dp;rw[show m.is kH=_ from G,show m.is r9=_ from H,show m.is xP=_ from I,show m.is ti=_ from K,show m.is uV=_ from A]<;>rfl);have e:=d;have t:=ak (Eq.refl f);have r:=ae n;have E:=od uy m.next;have k:(dc ek m.next).2.len<=m.len:=by omega
          have i:n+(dc ek m.next).2.len<=n+m.len+(dc ek m.next).2.due:=by omega))
 all_goals(obtain⟨g0,g1,g2,g3,g4,g5,g6,g7,g8,g9,ax,aC,a0,a1⟩:=xG e.box;obtain⟨V,Y,d2,d3,d4,d5,d6,d7,d8,d9,Z,aa,ab,ac⟩:=xG e.drop.box;have a9:=bX e.drop.box;have a8:=bX e.box;simp only[rD]at V Y d2 d3 d4 d5 d6 d7 d8 d9 Z aa ab ac;have HB:=ak (And.intro r (And.intro i k));clear r i k;go_wp2_with fail;(try simp only[Exit.inBlock,Exit.then]);refine aB (v:=_) (by simp[results,results41,go_sem,V,Y,d2,d3,d4,d5,d6,d7,d8,d9,Z,aa,ab,ac];rfl) rfl ?_;unfold Qg;rw[s.J];refine⟨f,_,_,?_,((((((((((((((d.lO.put 0 _).put 1 _).put 2 _).put 3 _).put 4 _).put 5 _).put 6 _).put 7 _).put 8 _).put 9 _).put 10 _).put 11 _).put 12 _).put 13 _).fin x,HB.J⟩;first|rfl|(rw[t.J];rfl))
theorem Rd.stage(d:Rd o w p c v m n)(k:c.deep=0)(e:n+m.len<=600):Calls prog 41 #[π (σ ⟨p,0,ν⟩)] w (Qg o w p c v m n):=by rcases or5 (m.is aW) (m.is aM) (m.is aJ) (m.is aG) (m.is aO)with⟨f,g,i,-⟩|j|j|j|⟨f,g,i,-⟩|⟨f,g,i,-⟩;{exact ac3 d e f g i};{exact ac2 d k e (.inl j)};{exact ac2 d k e (.inr (.inl j))};{exact ac2 d k e (.inr (.inr j))};{exact ac3 d e f g i};exact ac3 d e f g i
end
