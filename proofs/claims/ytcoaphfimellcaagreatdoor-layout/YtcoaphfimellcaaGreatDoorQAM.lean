import Derived.Test.YtcoaphfimellcaaGreatDoorQAL
set_option maxHeartbeats 0
set_option maxRecDepth 100000
namespace Go.Proofs.YtcoaphfimellcaaGreatDoor
open Go.RowKit
open _root_.Go.Proofs.Tryz
open Option renaming some→σ,none→ν
open Go.IntKind renaming i64→κ
open Go.Ending renaming returned→τ
open Go.Obj renaming cells→ξ
open Go renaming World→ω,Value→υ
open Go.RowKit renaming Below→δ
open Go.Value renaming int→ι,string→θ,slice→ψ,pointer→π,agg→χ
variable{x:ByteArray}{l:Nat}
abbrev bC:ByteArray:=⟨#[99,114,101,97,116,101]⟩
abbrev bD:ByteArray:=⟨#[100,114,111,112]⟩
abbrev bL:ByteArray:=⟨#[108,111,97,100]⟩
abbrev bG:ByteArray:=⟨#[103,114,97,110,116]⟩
abbrev bR:ByteArray:=⟨#[114,101,118,111,107,101]⟩
theorem Tryz.agk:(prog.info? 89).map (λa=>(a.zero,a.size,a.bytes))=σ (σ (χ #[ι κ 0,ψ ν 0 0]),2,32):=by kernel_rfl
theorem Tryz.YB:(prog.info? 95).map (λa=>(a.zero,a.size,a.bytes))=σ (σ (.agg (sx (rD ⟨#[]⟩ 0))),14,208):=by kernel_rfl
theorem ahZ(d:SV):∀b∈(sx d).toList,b.oneCell'=true:=by intro b a;simp[sx]at a;rcases a with rfl|rfl|rfl|rfl|rfl|rfl|rfl|rfl|rfl|rfl|rfl|rfl|rfl|rfl<;>rfl
section
variable {o:ω×υ} {w w':ω} {p:Nat} {c:fQ} {v:υ} {m:Mode} {n:Nat}
theorem Rd.apC(e:Rd o w p c v m n)(y:Qh c)(hm:n+m.len<=600)(c3:w.cell? ⟨p,3,ν⟩=σ (θ x))(i0:m.is bC=false)(i1:m.is bD=false)(i2:m.is bL=false)(i3:m.is bG=false)(i4:m.is bR=false):Calls prog 23 #[π (σ ⟨p,0,ν⟩)] w (T0 o w p v m x):=by obtain⟨x0,X,lC,lI,Z⟩:=info_parts Tryz.YB;obtain⟨_,_,_,_,_,_,_,_,_,_,_,c9⟩:=e.vw;have z9:=e.nh.2.2.2.2 9;have S:=e.start.apv (θ x);have aq:=dr (m:=m);go_in;have GI:=ak (show(cD m).2=(gN (m.take kW).name.2.len [{ bare kW m.place with table:=(m.take kW).name.1 }] (m.take kW).name.2).2 by unfold cD;rw[show m.is sG=_ from i0,show m.is EH=_ from i1,show m.is Gt=_ from i2,show m.is DE=_ from i3,show m.is Ce=_ from i4]<;>rfl);go_wp2_with(go_at_call 35;refine(S.rd.is _).mono ?_;rintro r' w' ⟨rfl,rfl⟩);refine(S.rd.take _).mono ?_;rintro K w1 ⟨s,rfl,O,f1⟩;have U:Rd (w,v) w1 p { c with word:=θ x } v (m.take kW) n:=O;have ar:=take_len m kW;clear c3 c9 z9 O;go_wp2_with fail;refine(U.name).mono ?_;rintro K N ⟨g,f,rfl,h2,f2⟩;have Kr:=dI (m.take kW);have b:St (w,v) (N.alloc (ξ #[θ g,ι κ f] 34)) p { c with word:=θ x,eQ:=ψ ν 0 0 } v (m.take kW).name.2 n [.box N.heap.size #[θ g,ι κ f] 34,.row (ψ ν 0 0) 95 14 0]:=(by have ac:{ c with word:=θ x,eQ:=ψ ν 0 0 }={ c with word:=θ x }:=(by cases c;cases y.eQ;rfl);rw[ac];exact(((S.call U f1).call h2 f2).nil 95 14).new _ _);obtain⟨a,i⟩:=nm (N.alloc (ξ #[θ g,ι κ f] 34 (0,0)));rw[<- i]at b;obtain⟨u0,u1⟩:=jW b.box;have R:=b.rd.nh.2.2.2.1;have ab:=b.rd.lt;have k:=((b.alloc (ξ (sx { rD ⟨#[102,114,111,109]⟩ s with t:=g,j:=f }) 95)).drew).lO;obtain⟨xs,own⟩:=k.row;have G:=ak own;have F:=ak (World.news_of_block (w:=(a.alloc (ξ (sx { rD ⟨#[102,114,111,109]⟩ s with t:=g,j:=f }) 95 (0,0))).drew) (B:=a.heap.size) (au a (ξ (sx { rD ⟨#[102,114,111,109]⟩ s with t:=g,j:=f }) 95 (0,0))));have t:=ak (show(a.alloc (ξ (sx { rD ⟨#[102,114,111,109]⟩ s with t:=g,j:=f }) 95 (0,0))).drew.heap.size=a.heap.size+1 by show(a.heap.push _).size=_;rw[dM]);have H:=ak k.rd.fr.keeps.size;have C:=ak (ahZ { rD ⟨#[102,114,111,109]⟩ s with t:=g,j:=f });have D:=ak i;clear own i;go_wp2_with fail;rw[<- D.J];go_region_law(refine step_append_lies _ rfl (.tmp 92) (.tmp 96) 38 rfl w.heap.size 95 x0 _ 14 208 underlying38 X lC lI Z rfl (by decide) _ _ _ (by simp[Act.eval]) G.J ⟨a.heap.size,0,ν⟩ 1 1 (sx { rD ⟨#[102,114,111,109]⟩ s with t:=g,j:=f }).toList (by simp[Act.eval]) rfl F.J C.J (by decide) (by unfold maxLen;omega) (by omega) H.J (a.heap.size+1) t.J ?_;intro I eZ we z A B _;have j:=k.app z A (by rw[t.J];rcases B with e|e;exact .inl e;exact .inr (by omega));have Y:=j.rd.nh.2.2.2.1;have kf:=j.rd.nh.2.2.2.2 18;clear z A B);all_goals(have u:=j.ahX (ψ (σ ⟨I,0,ν⟩) (0+1) eZ);clear u0 u1 R;go_wp2_with fail;clear Y kf;go_loopw[] (λwr=>∃(d:Mode) (v':υ) (E:Nat) (L:Option Addr) (q M r:Nat) (aa:List gx),St (w,v) wr p { c with word:=θ x,eQ:=ψ L q M } v' d E [.row (ψ L q M) 95 14 q]/\d.len<=r/\q+d.len<=m.len+1/\E+d.len<=n+m.len+d.due/\Hid (gN r aa d=gN (m.take kW).name.2.len [{ bare kW m.place with table:=(m.take kW).name.1 }] (m.take kW).name.2)) (λwr=>2000 - lenOf ((wr.cell? ⟨p,18,ν⟩).getD undef));(case atStart=>exact⟨(m.take kW).name.2,v,n,_,0+1,_,_,_,u.lO.drop,ae _,by omega,by omega,ak rfl⟩);case round=>clear G F t D H C u j k b;obtain⟨d,v',E,L,q,M,r,aa,S,ap,wL,B0,P⟩:=hrel;have zX:lenOf ((wr.cell? ⟨p,18,ν⟩).getD undef)=q:=(by rw[S.rd.nh.2.2.2.1];rfl);cases ic:d.is (ByteArray.mk #[124]);{have HF:=ak (show(cD m).2=d by rw[GI.J,<- P.J,yz (show d.is QO=false from ic)]);go_wp2_with(go_at_call 35;refine(S.rd.is _).mono ?_;rintro r' w' ⟨rfl,rfl⟩);go_end0;obtain⟨W,f9⟩:=S.fin e;rw[<- HF.J]at W;exact⟨rfl,_,_,E,⟨W,f9⟩,rfl,y.shaped.names,y.shaped.kinds,y.shaped.rows,⟨_,_,_,rfl⟩⟩};obtain⟨e3,e4,e5⟩:=S.rd.live ic;rw[rI e3]at B0;obtain⟨r,rfl⟩:∃I,r=I+1:=⟨r - 1,by omega⟩;have uA:=ak (EK P.J (show d.is QO=true from ic));go_wp2_with(go_at_call 35;refine(S.rd.is _).mono ?_;rintro r' w' ⟨rfl,rfl⟩);refine(S.rd.next e4).mono ?_;rintro K w3 ⟨rfl,V,f3⟩;go_wp2_with fail;refine(V.stage y.deep (by omega)).mono ?_;rintro K wc ⟨l,vc,nc,rfl,⟨h4,f4⟩,b1,b2,b3⟩;have b:=((S.call V f3).call h4 f4).new (sx l) 95;obtain⟨a,i⟩:=nm (wc.alloc (ξ (sx l) 95 (0,0)));rw[<- i]at b;obtain⟨g0,g1,g2,g3,g4,g5,g6,g7,g8,g9,al,am,an,ao⟩:=xG b.box;have R:=b.rd.nh.2.2.2.1;have ab:=b.rd.lt;have k:=((b.alloc (ξ (sx l) 95)).drew).lO;obtain⟨xs,own⟩:=k.row;have G:=ak own;have F:=ak (World.news_of_block (w:=(a.alloc (ξ (sx l) 95 (0,0))).drew) (B:=a.heap.size) (au a (ξ (sx l) 95 (0,0))));have t:=ak (show(a.alloc (ξ (sx l) 95 (0,0))).drew.heap.size=a.heap.size+1 by show(a.heap.push _).size=_;rw[dM]);have H:=ak k.rd.fr.keeps.size;have C:=ak (ahZ l);simp only[sx]at i;have D:=ak i;clear own i;simp only[sx];go_wp2_with fail;rw[<- D.J];go_region_law(refine step_append_lies _ rfl (.tmp 112) (.tmp 114) 38 rfl w.heap.size 95 x0 _ 14 208 underlying38 X lC lI Z rfl (by decide) _ _ _ (by simp[Act.eval]) G.J ⟨a.heap.size,0,ν⟩ 1 1 (sx l).toList (by simp[Act.eval]) rfl F.J C.J (by decide) (by unfold maxLen;omega) (by omega) H.J (a.heap.size+1) t.J ?_;intro T Q ad z A B _;have j:=k.app z A (by rw[t.J];rcases B with e|e;exact .inl e;exact .inr (by omega));have Y:=j.rd.nh.2.2.2.1;have kf:=j.rd.nh.2.2.2.2 18;clear z A B);all_goals(have u:=j.ahX (ψ (σ ⟨T,0,ν⟩) (q+1) Q);have Yy:lenOf (((ad.setCell ⟨p,18,ν⟩ (ψ (σ ⟨T,0,ν⟩) (q+1) Q)).cell? ⟨p,18,ν⟩).getD undef)=q+1:=(by rw[u.rd.nh.2.2.2.1];rfl);go_wp2_with fail;go_roundw;(case rel=>exact⟨_,_,nc,_,q+1,_,r,_,u.lO.drop,by omega,by omega,by omega,uA⟩);case measure=>rw[Yy,zX];omega))
theorem Rd.apD(j:Rd o w p c v m n)(f:Qh c)(hm:n+m.len<=600)(c3:w.cell? ⟨p,3,ν⟩=σ (θ x))(d:m.is bC=true\/(m.is bC=false/\m.is bD=true)\/(m.is bC=false/\m.is bD=false/\m.is bL=true)\/(m.is bC=false/\m.is bD=false/\m.is bL=false/\m.is bG=true)\/(m.is bC=false/\m.is bD=false/\m.is bL=false/\m.is bG=false/\m.is bR=true)):Calls prog 23 #[π (σ ⟨p,0,ν⟩)] w (T0 o w p v m x):=by
 obtain⟨y0,yi,an,ao,ap⟩:=info_parts Tryz.agk;obtain⟨_,_,_,_,_,_,_,_,_,_,_,c9⟩:=j.vw;have z9:=j.nh.2.2.2.2 9;have S:=j.start.apv (θ x);have aC:=dr (m:=m);go_in;rcases d with d|⟨y,d⟩|⟨y,K,d⟩|⟨y,K,i2,d⟩|⟨y,K,i2,i3,d⟩;all_goals
  go_wp2_with(go_at_call 35;refine(S.rd.is _).mono ?_;rintro r' w' ⟨rfl,rfl⟩);refine(S.rd.next (S.rd.live d).2.1).mono ?_;rintro l w1 ⟨rfl,g,G⟩;clear c3 c9 z9;go_wp2_with fail;first
   | (have z:=ak (show(cD m).2=(dc tj (m.next.name.2.take dA)).2.take fG by unfold cD;rw[show m.is sG=_ from d]<;>rfl)
      refine(g.create (by omega) f.names f.kinds).mono ?_;rintro l M ⟨rfl,ad,a',q,q',am,k',b,i⟩;have P:=(S.call g G).call b i)
   | (have z:=ak (show(cD m).2=m.next.name.2 by unfold cD;rw[show m.is sG=_ from y,show m.is EH=_ from d]<;>rfl)
      refine(g.name).mono ?_;rintro l M ⟨B,A,rfl,b,i⟩;obtain⟨_,_,_,_,_,_,E,F,_⟩:=b.vw;have aa:=b.nh.2.2.2.2;have P:=((S.call g G).call b i).Qf B A)
   | (have z:=ak (show(cD m).2=(mC (j6 m.next.name.2).2.len [(j6 m.next.name.2).1] (j6 m.next.name.2).2).2 by unfold cD;rw[show m.is sG=_ from y,show m.is EH=_ from K,show m.is Gt=_ from d]<;>rfl)
      refine(g.name).mono ?_;rintro l M ⟨B,A,rfl,b,i⟩;obtain⟨_,_,_,_,_,_,E,F,_⟩:=b.vw;have z0:=b.nh.2.2.2.2 10;have z1:=b.nh.2.2.2.2 11;have Kr:=dI m.next;have O:St (w,v) ((M.setCell ⟨p,10,ν⟩ (θ B)).setCell ⟨p,11,ν⟩ (ι κ A)) p { c with word:=θ x,rows:=ψ ν 0 0 } v m.next.name.2 n [.row (ψ ν 0 0) 89 2 0]:=by
       have al:{ c with word:=θ x,rows:=ψ ν 0 0 }={ c with word:=θ x }:=by cases c;cases f.rows;rfl
       rw[al];exact(((S.call g G).call b i).Qf B A).nil 89 2
      go_wp2_with fail;clear E F z0 z1;go_loopw[2] (λd wr=>∃(D:Bool) (a:Mode) (sa:Option Addr) (q sk:Nat),d=.bool D/\St (w,v) wr p { c with word:=θ x,rows:=ψ sa q sk } v a n [.row (ψ sa q sk) 89 2 q]/\q+a.len<=m.len+1/\Hid ((q=0/\D=true/\a=m.next.name.2)\/(0<q/\D=a.is dA/\∃e L,a.len<=e/\mC e L a=mC (j6 m.next.name.2).2.len [(j6 m.next.name.2).1] (j6 m.next.name.2).2))) (λ_ wr=>2000 - lenOf ((wr.cell? ⟨p,16,ν⟩).getD undef))
      case atStart=>exact⟨true,_,_,0,_,rfl,O,by omega,ak (.inl ⟨rfl,rfl,rfl⟩)⟩
      case round=>
       obtain⟨D,a,sa,q,sk,rfl,S,wL,V⟩:=hrel;have zX:lenOf ((wr.cell? ⟨p,16,ν⟩).getD undef)=q:=by rw[S.rd.nh.2.2.1];rfl
       cases D
       . have HF:=ak (show(cD m).2=a by
          rw[z.J];rcases V.J with⟨-,I,-⟩|⟨-,I,e,L,-,oX⟩
          . cases I
          . rw[<- oX,Ko I.symm])
         go_wp2_with fail;go_end0;obtain⟨H,f9⟩:=S.fin j;rw[<- HF.J]at H;exact⟨rfl,_,_,n,⟨H,f9⟩,rfl,f.shaped.names,f.shaped.kinds,⟨_,_,_,rfl⟩,f.shaped.eQ⟩
       . have T:=yx a
         have ab:=take_len a dA;have HM:Hid (q+1+(j6 a).2.len<=m.len+1/\∃e L,(j6 a).2.len<=e/\mC e L (j6 a).2=mC (j6 m.next.name.2).2.len [(j6 m.next.name.2).1] (j6 m.next.name.2).2):=by
          rcases V.J with⟨hq,-,N⟩|⟨hq,I,e,L,av,oX⟩
          . exact ak ⟨by rw[N]at T ab ⊢;omega,_,_,ae _,by rw[N]⟩
          . have ic:a.is dA=true:=I.symm
            have e5:=(S.rd.live ic).2.2;have ht:a.take dA=a.next:=aF ic;rw[ht]at T;obtain⟨e,rfl⟩:∃Q,e=Q+1:=⟨e - 1,by omega⟩;exact ak ⟨by omega,e,_,by omega,Kn oX ic⟩
         have a0:q<=601:=by omega
         have ax:a.len<=600:=by
          rcases V.J with⟨-,-,N⟩|⟨hq,-⟩
          . rw[N];omega
          . omega
         clear T ab;go_wp2_with fail;refine(S.rd.row (by omega)).mono ?_;rintro l wc ⟨k,r,t,s,rfl,R,Z⟩;have C:=(S.call R Z).new #[ι κ k,ψ r t s] 89;obtain⟨u,U⟩:=nm (wc.alloc (ξ #[ι κ k,ψ r t s] 89 (0,0)));rw[<- U]at C;obtain⟨u0,u1⟩:=jW C.box;have ar:=C.rd.nh.2.2.1;have aq:=C.rd.lt;have Y:=((C.alloc (ξ #[ι κ k,ψ r t s] 89)).drew).lO;obtain⟨xs,own⟩:=Y.row;have uk:=ak own;have uj:=ak (World.news_of_block (w:=(u.alloc (ξ #[ι κ k,ψ r t s] 89 (0,0))).drew) (B:=u.heap.size) (au u (ξ #[ι κ k,ψ r t s] 89 (0,0))));have vW:=ak (show(u.alloc (ξ #[ι κ k,ψ r t s] 89 (0,0))).drew.heap.size=u.heap.size+1 by show(u.heap.push _).size=_;rw[dM]);have yl:=ak Y.rd.fr.keeps.size;have H1:=ak (show∀ac∈[Value.int κ k,ψ r t s],ac.oneCell'=true by intro ac hu;simp at hu;rcases hu with rfl|rfl<;>rfl);have Yz:=ak U;clear own U;go_wp2_with fail;rw[<- Yz.J];go_region_law(refine step_append_lies _ rfl (.tmp 52) (.tmp 54) 37 rfl w.heap.size 89 y0 _ 2 32 underlying37 yi an ao ap rfl (by decide) _ _ _ (by simp[Act.eval]) uk.J ⟨u.heap.size,0,ν⟩ 1 1 [ι κ k,ψ r t s] (by simp[Act.eval]) rfl uj.J H1.J (by decide) (by unfold maxLen;omega) (by omega) yl.J (u.heap.size+1) vW.J ?_;intro Q eZ we nU sC wK _;have W:=Y.app nU sC (by rw[vW.J];rcases wK with j|j;exact .inl j;exact .inr (by omega));have a1:=W.rd.nh.2.2.1;have kf:=W.rd.nh.2.2.2.2 16;clear nU sC wK)
         all_goals
          have X:=W.apx (ψ (σ ⟨Q,0,ν⟩) (q+1) eZ);have Yy:lenOf (((we.setCell ⟨p,16,ν⟩ (ψ (σ ⟨Q,0,ν⟩) (q+1) eZ)).cell? ⟨p,16,ν⟩).getD undef)=q+1:=by rw[X.rd.nh.2.2.1];rfl
          go_wp2_with(go_at_call 35;refine(X.rd.is _).mono ?_;rintro r' w' ⟨rfl,rfl⟩);go_roundw
          case rel=>
           obtain⟨hf,f',l',Y2,Jf⟩:=HM.J;exact⟨_,_,_,q+1,_,rfl,X.lO.drop,hf,ak (.inr ⟨by omega,rfl,f',l',Y2,Jf⟩)⟩
          case measure=>rw[Yy,zX];omega)
   | (have z:=ak (show(cD m).2=(mO (lvl 8) (((jK ((m.next.name.2.take yr).name.2.take dA)).2.take fG).take kH)).2 by unfold cD;rw[show m.is sG=_ from y,show m.is EH=_ from K,show m.is Gt=_ from i2,show m.is DE=_ from d]<;>rfl)
      refine(g.vB f.deep (by omega)).mono ?_;rintro l M ⟨rfl,v2,n2,ad,q,am,b,i⟩;have P:=(S.call g G).call b i)
   | (have z:=ak (show(cD m).2=(m.next.name.2.take yr).name.2 by unfold cD;rw[show m.is sG=_ from y,show m.is EH=_ from K,show m.is Gt=_ from i2,show m.is DE=_ from i3,show m.is Ce=_ from d]<;>rfl)
      refine(g.name).mono ?_;rintro l M ⟨B,A,rfl,b,i⟩;obtain⟨_,_,_,_,_,_,_,_,E,F,_⟩:=b.vw;have aa:=b.nh.2.2.2.2;have O:=((S.call g G).call b i).ahV B A;go_wp2_with fail;refine(O.rd.take _).mono ?_;rintro l w3 ⟨_,rfl,R,Z⟩;clear E F aa;go_wp2_with fail;refine(R.name).mono ?_;rintro l w4 ⟨s4,j4,rfl,h4,f4⟩;obtain⟨_,_,_,_,_,_,E,F,_⟩:=h4.vw;have aa:=h4.nh.2.2.2.2;have P:St (w,v) _ p _ v (m.next.name.2.take yr).name.2 n _:=((O.call R Z).call h4 f4).Qf s4 j4)
  all_goals(go_wp2_with fail;go_end0;obtain⟨H,f9⟩:=P.fin j;rw[<- z.J]at H;refine⟨rfl,_,_,_,⟨H,f9⟩,rfl,?_,?_,f.shaped.rows,f.shaped.eQ⟩<;>first|exact⟨_,_,_,rfl⟩|exact f.shaped.names|exact f.shaped.kinds)
theorem Rd.command(b:Rd o w p c v m n)(d:Qh c)(e:n+m.len<=600)(a:w.cell? ⟨p,3,ν⟩=σ (θ x)):Calls prog 23 #[π (σ ⟨p,0,ν⟩)] w (T0 o w p v m x):=by rcases or5 (m.is bC) (m.is bD) (m.is bL) (m.is bG) (m.is bR)with⟨f,g,i,j,k⟩|l;{exact b.apC d e a f g i j k};exact b.apD d e a l
end
section
variable {o:ω×υ} {w w':ω} {p:Nat} {c:fQ} {v:υ} {m:Mode} {n:Nat}
theorem Rd.apE(f:Rd o w p c v m n):∃a d:Nat,w.cell? ⟨p,6,ν⟩=σ (ι κ a)/\w.cell? ⟨p,7,ν⟩=σ (ι κ d)/\((m=.dead a d/\((a:Int) != 0)=true)\/(m.alive/\((a:Int) != 0)=false)):=by
 obtain⟨e,j,q,_⟩:=f.ex;refine⟨e.e,e.bad,q.pen.cell 6,q.pen.cell 7,?_⟩;have:=q.mode
 cases m with
 |dead _ _=>obtain⟨b,g,i⟩:=this;exact .inl ⟨by rw[b,g],by rw[jA];omega⟩
 |live k l=>exact .inr ⟨trivial,by have b:=this.1;rw[b];rfl⟩
theorem Rd.ac4(U:Rd o w p c v m n)(W:Shaped c)(Z:c.word=θ x):∃(f:ByteArray) (g:Int) (i:ByteArray) (j:Int) (B:Option Addr) (u l:Nat) (C:Option Addr) (y r:Nat) (D:Option Addr) (z s:Nat) (k:Int) (E:Option Addr) (A t:Nat) (b:Option Addr) (d e:Nat),
 w.cell? ⟨p,9,ν⟩=σ (θ x)/\w.cell? ⟨p,10,ν⟩=σ (θ f)/\w.cell? ⟨p,11,ν⟩=σ (ι κ g)/\w.cell? ⟨p,12,ν⟩=σ (θ i)/\w.cell? ⟨p,13,ν⟩=σ (ι κ j)/\w.cell? ⟨p,14,ν⟩=σ (ψ B u l)/\w.cell? ⟨p,15,ν⟩=σ (ψ C y r)/\w.cell? ⟨p,16,ν⟩=σ (ψ D z s)/\w.cell? ⟨p,17,ν⟩=σ (ι κ k)/\w.cell? ⟨p,18,ν⟩=σ (ψ E A t)/\w.cell? ⟨p,19,ν⟩=σ (ψ b d e):=by obtain⟨aa,ns,q,a,_⟩:=U.ex;obtain⟨⟨f,I⟩,⟨g,L⟩,⟨i,M⟩,⟨j,N⟩,⟨k,R⟩⟩:=a.form;obtain⟨⟨B,u,l,O⟩,⟨C,y,r,P⟩,⟨D,z,s,Q⟩,⟨E,A,t,T⟩⟩:=W;have X:∃F G H,aa.nodes=ψ F G H:=(by rcases q.own.2 with⟨V,_⟩|⟨ac,ab,_,Y,_⟩;{exact⟨_,_,_,V⟩};exact⟨_,_,_,Y⟩);obtain⟨b,d,e,K⟩:=X;exact⟨f,g,i,j,B,u,l,C,y,r,D,z,s,k,E,A,t,b,d,e,(q.pen.cell 9).trans (bn σ (a.word.trans Z)),(q.pen.cell 10).trans (bn σ I),(q.pen.cell 11).trans (bn σ L),(q.pen.cell 12).trans (bn σ M),(q.pen.cell 13).trans (bn σ N),(q.pen.cell 14).trans (bn σ (a.names.trans O)),(q.pen.cell 15).trans (bn σ (a.kinds.trans P)),(q.pen.cell 16).trans (bn σ (a.rows.trans Q)),(q.pen.cell 17).trans (bn σ R),(q.pen.cell 18).trans (bn σ (a.eQ.trans T)),(q.pen.cell 19).trans (bn σ K)⟩
end
theorem ac5{K:Nat->Prop}{w:ω}{p:Nat}{x:fQ}(Q:tr w p x)(G:Laid w)(t:0<p)(e:x.S.size<=300)(N:x.pos=0)(u:x.e=0)(E:x.nodes=ψ ν 0 0)(T:K 0)(D:¬K p)(hold:∀f,K f->f<w.heap.size) :
 Calls prog 22 #[π (σ ⟨p,0,ν⟩)] w λI w'=>
 I=τ (.tuple #[])/\∃d,ib K w' p d (Mode.of (fM x.S 0)) []/\Rest x d/\d.nodes=ψ ν 0 0/\aX K w w':=by refine(Ny p x w Q G t e (by omega)).mono ?_;rintro I w' ⟨rfl,d,P,b,A⟩;have O:aX K w w':=A.mono (λf l=>⟨λL=>D (L ▸ l),hold f l⟩);refine⟨rfl,d,?_,?_,by rw[b.same];exact E,O⟩;{have k:d.S=x.S:=(by rw[b.same]);have B:d.e=x.e:=(by rw[b.same]);have y:d.nodes=ψ ν 0 0:=(by rw[b.same];exact E);have C:d.pos<=x.S.size+1/\d.tp<=x.S.size:=(by by_cases a:aS x.S cz x.pos<x.S.size;{obtain⟨M,z,e⟩:=b.tok a;rw[z,e];refine⟨NA x.S _ a,by omega⟩};obtain⟨M,z,e⟩:=b.fin a;rw[z,e];have:=fV x.S cz x.pos (by omega);exact⟨by omega,ae _⟩);refine⟨P,G.keeps A t,t,by rw[k];exact e,by rw[k];exact C.1,b.k,b.n,by rw[k];exact C.2,?_,?_,by rw[y];simp[Value.ownBlock],T,D,λU F=>by rw[y]at F;simp[Value.ownBlock]at F,λf l=>ai (hold f l) A.size⟩;{rw[<- N];by_cases a:aS x.S cz x.pos<x.S.size;{obtain⟨i,s,H⟩:=b.tok a;by_cases r:(fN x.S (aS x.S cz x.pos) a).1.ends=true;{have j:fM x.S x.pos=[⟨.bad,aS x.S cz x.pos⟩]:=(by rw[fM];simp only[dif_pos a,dif_pos r]);rw[j];have R:(fN x.S (aS x.S cz x.pos) a).1=.bad:=Bq x.S _ a r;rw[R]at i;exact⟨by rw[B];exact u,i,s,λg=>by simp[Tk.ends]at g,λ_=>rfl⟩};have j:fM x.S x.pos=⟨(fN x.S (aS x.S cz x.pos) a).1,aS x.S cz x.pos⟩::fM x.S (fN x.S (aS x.S cz x.pos) a).2:=(by rw[fM];simp only[dif_pos a,dif_neg r]);rw[j];exact⟨by rw[B];exact u,i,s,λ_=>by rw[k,H],λg=>absurd g r⟩};obtain⟨i,s,H⟩:=b.fin a;have j:fM x.S x.pos=[⟨.stop,x.S.size⟩]:=(by rw[fM];simp only[dif_neg a]);rw[j];exact⟨by rw[B];exact u,i,s,λg=>by simp[Tk.ends]at g,λ_=>rfl⟩};rw[y];exact gR _ _ _ _};rw[b.same];exact⟨rfl,rfl,rfl,rfl,rfl,rfl,rfl,rfl,rfl,rfl,rfl,rfl⟩
def akW(S:ByteArray):fQ:=⟨S,0,0,⟨#[]⟩,0,0,0,0,0,θ ⟨#[]⟩,θ ⟨#[]⟩,ι κ 0,θ ⟨#[]⟩,ι κ 0,ψ ν 0 0,ψ ν 0 0,ψ ν 0 0,ι κ 0,ψ ν 0 0,ψ ν 0 0⟩
theorem Ja{S:ByteArray}(d:S.size<=300){a:Nat}(b:(cD (Mode.of (fM S 0))).2=.dead l a):iG S=.inr (l,a):=by unfold iG;rw[aE (by omega)];simp only[b]
theorem T3{S:ByteArray}(d:S.size<=300){b:List Tok}(a:(cD (Mode.of (fM S 0))).2=.live ⟨.stop,l⟩ b):iG S=.inl (cD (Mode.of (fM S 0))).1:=by unfold iG;rw[aE (by omega)];simp only[a]
theorem T5{S:ByteArray}(d:S.size<=300){k:Tk}{pl:Nat}{ts:List Tok}(a:k≠.stop)(b:(cD (Mode.of (fM S 0))).2=.live ⟨k,pl⟩ ts):iG S=.inr (2,pl):=by unfold iG;rw[aE (by omega)];simp only[b];cases k<;>first|rfl|exact absurd rfl a
def Gs(S:ByteArray):Bool:=match iG S with|.inl (.query _)=>true|_=>false
def ah1(r:Ending)(S:ByteArray):Prop:=∃(a0 a1:ByteArray) (a2:Int) (a3:ByteArray) (a4:Int) (p5:Option Addr) (n5 c5:Nat) (p6:Option Addr) (n6 c6:Nat) (p7:Option Addr) (n7 c7:Nat) (a8:Int) (p9:Option Addr) (n9 c9:Nat) (Zi:Option Addr) (Zj Zk:Nat) (e b:Nat),
 r=τ (.tuple #[χ #[θ a0,θ a1,ι κ a2,θ a3,ι κ a4,ψ p5 n5 c5,ψ p6 n6 c6,ψ p7 n7 c7,ι κ a8,ψ p9 n9 c9,ψ Zi Zj Zk],ι κ e,ι κ b])/\
 (iZ a0 kW=Gs S)/\((∃c,iG S=.inl c/\e=0)\/(iG S=.inr (e,b)))
theorem YC{m:Mode}(a:¬m.alive):¬m.name.2.alive:=by
 cases m with
 |live e f=>exact absurd trivial a
 |dead d b=>exact a
theorem Qi{m:Mode}(a:¬m.alive)(b:Nat)(d:List gx):¬(gN b d m).2.alive:=by rw[yz (Qd a QO)];exact a
theorem agl{m:Mode}(b:∀j,m.is j=true->x=j)(a:(cD m).2.alive):iZ x kW=match(cD m).1 with|.query _=>true|_=>false:=by unfold cD at a ⊢;by_cases d:m.is sG=true;{rw[aF d,b _ d];rfl};rw[aE d]at a ⊢;by_cases e:m.is EH=true;{rw[aF e,b _ e];rfl};rw[aE e]at a ⊢;by_cases f:m.is Gt=true;{rw[aF f,b _ f];rfl};rw[aE f]at a ⊢;by_cases g:m.is DE=true;{rw[aF g,b _ g];rfl};rw[aE g]at a ⊢;by_cases i:m.is Ce=true;{rw[aF i,b _ i];rfl};rw[aE i]at a ⊢;have k:m.is kW=true:=(by apply gJ;intro r;have l:¬(m.take kW).alive:=(by unfold Mode.take;rw[aE r];exact di m 2);exact Qi (YC l) _ _ a);rw[b _ k];rfl
theorem Vv{w:ω}{d:TypeId}(a:w.heap[l]?=σ (ξ #[θ ⟨#[]⟩,θ ⟨#[]⟩,ι κ 0,θ ⟨#[]⟩,ι κ 0,ψ ν 0 0,ψ ν 0 0,ψ ν 0 0,ι κ 0,ψ ν 0 0,ψ ν 0 0] d (0,0))):(w.cell? ⟨l,0,ν⟩=σ (θ ⟨#[]⟩)/\w.cell? ⟨l,1,ν⟩=σ (θ ⟨#[]⟩)/\w.cell? ⟨l,2,ν⟩=σ (ι κ 0)/\w.cell? ⟨l,3,ν⟩=σ (θ ⟨#[]⟩)/\w.cell? ⟨l,4,ν⟩=σ (ι κ 0)/\w.cell? ⟨l,5,ν⟩=σ (ψ ν 0 0)/\w.cell? ⟨l,6,ν⟩=σ (ψ ν 0 0)/\w.cell? ⟨l,7,ν⟩=σ (ψ ν 0 0)/\w.cell? ⟨l,8,ν⟩=σ (ι κ 0)/\w.cell? ⟨l,9,ν⟩=σ (ψ ν 0 0)/\w.cell? ⟨l,10,ν⟩=σ (ψ ν 0 0))/\w.frozen? ⟨l,0,ν⟩=false/\w.frozen? ⟨l,1,ν⟩=false/\w.frozen? ⟨l,2,ν⟩=false/\w.frozen? ⟨l,3,ν⟩=false/\w.frozen? ⟨l,4,ν⟩=false/\w.frozen? ⟨l,5,ν⟩=false/\w.frozen? ⟨l,6,ν⟩=false/\w.frozen? ⟨l,7,ν⟩=false/\w.frozen? ⟨l,8,ν⟩=false/\w.frozen? ⟨l,9,ν⟩=false/\w.frozen? ⟨l,10,ν⟩=false:=
 have b:=bX a
 ⟨⟨cX a 0,cX a 1,cX a 2,cX a 3,cX a 4,cX a 5,cX a 6,cX a 7,cX a 8,cX a 9,cX a 10⟩,b 0,b 1,b 2,b 3,b 4,b 5,b 6,b 7,b 8,b 9,b 10⟩
theorem YD(S:ByteArray)(w:ω)(b:300<S.size):Calls prog 13 #[θ S] w λd w'=>ah1 d S/\δ w.heap.size w w':=by
 have a:iG S=.inr (1,0):=aF b;have e:(300:Int)<S.size:=by omega
 go_in;go_wp2_with fail;(try simp only[Exit.inBlock,Exit.then]);refine aB (v:=.tuple #[χ #[θ ⟨#[]⟩,θ ⟨#[]⟩,ι κ 0,θ ⟨#[]⟩,ι κ 0,ψ ν 0 0,ψ ν 0 0,ψ ν 0 0,ι κ 0,ψ ν 0 0,ψ ν 0 0],ι κ 1,ι κ 0]) (by simp[results,results13,go_sem];try rfl) rfl ?_;exact⟨⟨_,_,_,_,_,_,_,_,_,_,_,_,_,_,_,_,_,_,_,_,_,1,0,rfl,by unfold Gs;rw[a];rfl,.inr a⟩,(ah _ _).alloc (ae _) _⟩
theorem Lv(S:ByteArray)(w:ω)(hl:Laid w)(h0:0<w.heap.size):Calls prog 13 #[θ S] w λM w'=>ah1 M S/\δ w.heap.size w w':=by
 by_cases hS:300<S.size;{exact YD S w hS};have s:S.size<=300:=by omega
 have h':¬(300:Int)<S.size:=by omega
 have av:=ajX S s;have HL:=ak hl;clear hl hS;go_in;go_wp2_with fail;generalize hW:World.alloc (World.alloc w _) _=f;obtain⟨j,b2,b3,b4⟩:δ w.heap.size w f/\f.heap[w.heap.size]?=σ (ξ #[θ ⟨#[]⟩,θ ⟨#[]⟩,ι κ 0,θ ⟨#[]⟩,ι κ 0,ψ ν 0 0,ψ ν 0 0,ψ ν 0 0,ι κ 0,ψ ν 0 0,ψ ν 0 0] 41 (0,0))/\f.heap[w.heap.size+1]?=σ (ξ (iL (akW S)) 66 (0,0))/\f.heap.size=w.heap.size+2:=(by rw[<- hW];exact⟨((ah _ _).alloc (ae _) _).alloc (by simp) _,heap_alloc2_old w _ _,heap_alloc2_new w _ _,by show((w.heap.push _).push _).size=_;simp⟩);have y:(Value.slice ν 0 0).ownBlock=ν:=rfl;refine(ac5 (K:=YS (w.heap.size+1) (ψ ν 0 0) f) (x:=akW S) b3 (HL.J.below j) (by omega) s rfl rfl rfl ⟨by omega,by omega,by simp[y]⟩ (λe=>e.2.1 rfl) (λe d=>d.1)).mono ?_;rintro M w1 ⟨rfl,x1,s1,b,V,T⟩;have ad:Rd (f,ψ ν 0 0) w1 (w.heap.size+1) (akW S) (ψ ν 0 0) (Mode.of (fM S 0)) 0:=
  ⟨⟨x1,[],s1.more ⟨ai (by omega) T.size,by omega,by simp[y]⟩ (λe d=>.inr ⟨d.2.1,by rw[V];exact d.2.2,d.1⟩),⟨b.deep,b.word,b.names,b.kinds,b.rows,b.eQ,⟨_,b.Jp⟩,⟨_,b.Jq⟩,⟨_,b.Jr⟩,⟨_,b.Js⟩,_,b.cond⟩,V,rfl⟩,⟨T,λaq hg=>by cases hg⟩,by show w.heap.size+1<f.heap.size;omega⟩
 obtain⟨e,al,ax,aC,_,c3,_,_,_,_,_,hw⟩:=ad.tok;have X:=ak (λ(x:ω) (N:υ) (hf:Fq (w.heap.size+1) (ψ ν 0 0) N f x)=>(show x.heap[w.heap.size]?=σ (ξ #[θ ⟨#[]⟩,θ ⟨#[]⟩,ι κ 0,θ ⟨#[]⟩,ι κ 0,ψ ν 0 0,ψ ν 0 0,ψ ν 0 0,ι κ 0,ψ ν 0 0,ψ ν 0 0] 41 (0,0))/\aX (λe=>e<w.heap.size) w x from
  ⟨(hf.keeps.block w.heap.size ⟨by omega,by omega,by simp[y]⟩).trans b2,aX.trans (⟨j.os,j.tape,j.output,j.size,λe d=>j.block e d⟩:aX (λe=>e<w.heap.size) w f) (hf.keeps.mono (λe d=>⟨by omega,by omega,by simp[y]⟩))⟩))
 clear s1 T j b2 b3 hW b V;go_wp2_with fail;refine(ad.command ⟨rfl,rfl,rfl,rfl,rfl⟩ (by omega) c3).mono ?_;rintro M x ⟨rfl,c2,N,n2,⟨u,f2⟩,ac,lZ⟩;obtain⟨O,np⟩:=X.J x N u.fr;obtain⟨U,tt,ii,jj,e2,_,e4,_,ao,_,R,_⟩:=u.tok;have an:=ak lZ;have am:=ak ac;have W:=ak np;clear c3 f2 lZ ac np;by_cases d:(U:Int)=0
 .have yK:((U:Int) != 0)=false:=by rw[d];rfl
  obtain⟨k,i,c6,c7,Q⟩:=u.apE;obtain⟨⟨z,A,C,D,E,F,G,H,I,K,B⟩,z0,z1,z2,z3,z4,z5,z6,z7,z8,z9,ap⟩:=Vv O;rcases Q with⟨a,P⟩|⟨l,P⟩;{have g:=ak (Ja s a);clear O a;go_wp2_with fail;go_region;all_goals((try go_wp2_with fail);(try simp only[Exit.inBlock,Exit.then]);refine aB (v:=.tuple #[χ #[θ ⟨#[]⟩,θ ⟨#[]⟩,ι κ 0,θ ⟨#[]⟩,ι κ 0,ψ ν 0 0,ψ ν 0 0,ψ ν 0 0,ι κ 0,ψ ν 0 0,ψ ν 0 0],ι κ k,ι κ i]) (by simp[results,results13,go_sem,z,A,C,D,E,F,G,H,I,K,B];try rfl) rfl ?_;exact⟨⟨_,_,_,_,_,_,_,_,_,_,_,_,_,_,_,_,_,_,_,_,_,k,i,rfl,by unfold Gs;rw[g.J];rfl,.inr g.J⟩,((((((((((((W.J.setCell (p:=⟨w.heap.size,0,ν⟩) (bO _) _).setCell (p:=⟨w.heap.size,1,ν⟩) (bO _) _).setCell (p:=⟨w.heap.size,2,ν⟩) (bO _) _).setCell (p:=⟨w.heap.size,3,ν⟩) (bO _) _).setCell (p:=⟨w.heap.size,4,ν⟩) (bO _) _).setCell (p:=⟨w.heap.size,5,ν⟩) (bO _) _).setCell (p:=⟨w.heap.size,6,ν⟩) (bO _) _).setCell (p:=⟨w.heap.size,7,ν⟩) (bO _) _).setCell (p:=⟨w.heap.size,8,ν⟩) (bO _) _).setCell (p:=⟨w.heap.size,9,ν⟩) (bO _) _).setCell (p:=⟨w.heap.size,10,ν⟩) (bO _) _)).drew.below⟩)}
  have je:∃r t,(cD (Mode.of (fM S 0))).2=.live ⟨.stop,r⟩ t:=by
   have L:=R.J l
   cases a:(cD (Mode.of (fM S 0))).2 with
   |dead _ _=>rw[a]at l;exact l.elim
   |live tk t=>
     rw[a]at L;obtain⟨q,r⟩:=tk
     cases q<;>simp only[nr,Mode.tk]at L
     case stop=>exact⟨r,t,rfl⟩
     all_goals omega
  obtain⟨r,t,a⟩:=je;have g:=ak (T3 s a);have HE:=ak (agl hw.J l);obtain⟨a1,a2,a3,a4,p5,n5,c5,p6,n6,aa,p7,n7,ab,a8,p9,n9,c9,Y,Z,Zk,g0,g1,g2,g3,g4,g5,g6,g7,g8,g9,ar⟩:=u.ac4 an.J am.J;clear O a l;go_wp2_with fail;(try simp only[Exit.inBlock,Exit.then]);refine aB (v:=.tuple #[χ #[θ al,θ a1,ι κ a2,θ a3,ι κ a4,ψ p5 n5 c5,ψ p6 n6 aa,ψ p7 n7 ab,ι κ a8,ψ p9 n9 c9,ψ Y Z Zk],ι κ 0,ι κ 0]) (by simp[results,results13,go_sem,z,A,C,D,E,F,G,H,I,K,B];try rfl) rfl ?_;refine⟨⟨al,a1,a2,a3,a4,p5,n5,c5,p6,n6,aa,p7,n7,ab,a8,p9,n9,c9,Y,Z,Zk,0,0,rfl,?_,.inl ⟨_,g.J,rfl⟩⟩,(((((((((((W.J.setCell (p:=⟨w.heap.size,0,ν⟩) (bO _) _).setCell (p:=⟨w.heap.size,1,ν⟩) (bO _) _).setCell (p:=⟨w.heap.size,2,ν⟩) (bO _) _).setCell (p:=⟨w.heap.size,3,ν⟩) (bO _) _).setCell (p:=⟨w.heap.size,4,ν⟩) (bO _) _).setCell (p:=⟨w.heap.size,5,ν⟩) (bO _) _).setCell (p:=⟨w.heap.size,6,ν⟩) (bO _) _).setCell (p:=⟨w.heap.size,7,ν⟩) (bO _) _).setCell (p:=⟨w.heap.size,8,ν⟩) (bO _) _).setCell (p:=⟨w.heap.size,9,ν⟩) (bO _) _).setCell (p:=⟨w.heap.size,10,ν⟩) (bO _) _).below⟩;rw[HE.J];unfold Gs;rw[g.J];cases(cD (Mode.of (fM S 0))).1<;>rfl
 have yK:((U:Int) != 0)=true:=by rw[jA];exact d
 go_wp2_with fail;refine(u.fail 2 ii (by decide) ao).mono ?_;rintro M w3 ⟨rfl,h3,f3⟩;obtain⟨fI,yB⟩:=X.J w3 N h3.fr;obtain⟨k,i,c6,c7,Q⟩:=h3.apE;have EV:=ak yB;obtain⟨⟨z,A,C,D,E,F,G,H,I,K,B⟩,z0,z1,z2,z3,z4,z5,z6,z7,z8,z9,ap⟩:=Vv fI;rcases Q with⟨a,P⟩|⟨l,P⟩
 .have hr:iG S=.inr (k,i):=by
   cases Kl:(cD (Mode.of (fM S 0))).2 with
   |dead e' b'=>rw[Kl]at a;exact Ja s (Kl.trans a)
   |live tk t=>
     rw[Kl]at a R;have L:=R.J trivial;obtain⟨q,r⟩:=tk;have B3:Mode.dead 2 r=.dead k i:=a
     injection B3 with q1 q2
     rw[T5 s (k:=q) (pl:=r) (ts:=t) (λhs=>by subst hs;simp only[nr,Mode.tk]at L;omega) Kl,q1,q2]
  have g:=ak hr;clear fI yB a hr e2 e4;go_wp2_with fail;go_region;all_goals((try go_wp2_with fail);(try simp only[Exit.inBlock,Exit.then]);refine aB (v:=.tuple #[χ #[θ ⟨#[]⟩,θ ⟨#[]⟩,ι κ 0,θ ⟨#[]⟩,ι κ 0,ψ ν 0 0,ψ ν 0 0,ψ ν 0 0,ι κ 0,ψ ν 0 0,ψ ν 0 0],ι κ k,ι κ i]) (by simp[results,results13,go_sem,z,A,C,D,E,F,G,H,I,K,B];try rfl) rfl ?_;exact⟨⟨_,_,_,_,_,_,_,_,_,_,_,_,_,_,_,_,_,_,_,_,_,k,i,rfl,by unfold Gs;rw[g.J];rfl,.inr g.J⟩,((((((((((((EV.J.setCell (p:=⟨w.heap.size,0,ν⟩) (bO _) _).setCell (p:=⟨w.heap.size,1,ν⟩) (bO _) _).setCell (p:=⟨w.heap.size,2,ν⟩) (bO _) _).setCell (p:=⟨w.heap.size,3,ν⟩) (bO _) _).setCell (p:=⟨w.heap.size,4,ν⟩) (bO _) _).setCell (p:=⟨w.heap.size,5,ν⟩) (bO _) _).setCell (p:=⟨w.heap.size,6,ν⟩) (bO _) _).setCell (p:=⟨w.heap.size,7,ν⟩) (bO _) _).setCell (p:=⟨w.heap.size,8,ν⟩) (bO _) _).setCell (p:=⟨w.heap.size,9,ν⟩) (bO _) _).setCell (p:=⟨w.heap.size,10,ν⟩) (bO _) _)).drew.below⟩)
 exact absurd l (di _ 2)
