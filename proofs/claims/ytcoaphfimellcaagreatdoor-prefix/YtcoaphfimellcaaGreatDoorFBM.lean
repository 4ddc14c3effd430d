import Derived.Test.YtcoaphfimellcaaGreatDoorFBJ
set_option maxHeartbeats 0
set_option maxRecDepth 100000
namespace Go.Proofs.YtcoaphfimellcaaGreatDoor
open Go.RowKit
open _root_.Go.Proofs.Tryz
open Option renaming some→σ,none→ν
open Go.IntKind renaming i64→κ
open Go.RowKit renaming Below→δ
open Go.Value renaming int→ι,string→θ,slice→ψ,pointer→π,agg→χ
variable{w:World}{p:Nat}
section
open Go.Maps
theorem Gi{cols:List bu}:∀{c:List Nm} {b:List Nat} {a:Nat×Nat},gG cols c b=.inl a->a.1≠0
 |[],b,a,h=>by unfold gG at h;cases h
 |n::r,b,a,h=>by
   unfold gG at h;split at h
   . cases h;simp
   . split at h
     . cases h;simp
     . exact Gi h
theorem aeF{cols:List bu}{a:Ex}(b:(pj cols a p).1≠0){f:Type}(st:f)(g:(Nat×Nat)×f):(match cL cols a with|.inr d=>(d,st)|.inl c=>if c≠2 then((7,p),st)else g)=(pj cols a p,st):=by unfold pj at b ⊢;cases hk:cL cols a with|inr d=>rfl|inl c=>rw[hk]at b;by_cases e:c=2;{simp[e]at b};simp[e]
theorem aau{cols:List bu}{e:Ex}{pl:Nat}(a:(pj cols e pl).1=0):cL cols e=.inl 2:=by unfold pj at a;cases hk:cL cols e with|inr d=>rw[hk]at a;exact absurd a (Qg cols e hk).1|inl c=>rw[hk]at a;by_cases b:c=2;{rw[b]};simp[b]at a
theorem aav{c:Type}{a:List (Lit×c)}{b:Lit}{d:c}(e:(b,d)∈a)(f:WideAt.IsKeyLit b):(qA a b).length<a.length:=by unfold qA;rw[List.length_filter_lt_length_iff_exists];exact⟨_,e,by simp[WideAt.sameKey_self f]⟩
theorem vS.gen{f:World}{e:(Nat×Nat) ⊕ List Nat}{l:Ending}(n:vS w f e l):∃d k c,∃b:Nat×Nat,l=.returned (.tuple #[ψ d k c,χ #[ι κ b.1,ι κ b.2]])/\(e=.inl b\/∃a,e=.inr a/\b=(0,0)/\f.ownsRow w.heap.size 3 1 (ψ d k c) a.length (a.map nr))/\δ w.heap.size w f:=by obtain⟨g,i⟩:=n;cases e with|inl m=>exact⟨ν,0,0,m,i,.inl rfl,g⟩|inr a=>obtain⟨o,rfl,j⟩:=i;obtain⟨d,c,rfl,-,-⟩:=cu j;exact⟨d,a.length,c,(0,0),rfl,.inr ⟨a,rfl,rfl,j⟩,g⟩
theorem aaw{bx:uS}{k:World}{an mt mg:Nat}{bd:Nat->Prop}{r:List (Lit×ij)}{c:List (Lit×oV)}(h:df bx k an mt mg bd r c){b a:Nm}(hu:nT b)(ht:nT a){i:List Nm}(cm:i≠[])(Bz:i.length<=302){ac:Value}(hv:bz k 2 ac i.length (EJ i)){d:Ex}(DC:pI d){o:Nat} :
 Calls prog 285 #[χ #[θ b.1,ι κ b.2,θ a.1,ι κ a.2,ac,ι κ o,pz d],π (σ ⟨an,0,ν⟩)] k λab w'=>lI bx k w' an mt mg bd r (yD (de r c) b a i d o) ab:=by
 have XO:(8:Nat)<=maxLen:=by unfold maxLen;omega
 have bv:=ag hu.1 XO;have Hz:=ag ht.1 XO;obtain⟨D,zq,-,-⟩:=pT d;obtain⟨Y,V,rfl⟩:=bz.slice hv;rw[zq];obtain⟨w,hW⟩:=nm ((k.alloc (obM b.1 b.2 a.1 a.2 Y i.length V o (.iface D (rz d)))).alloc (iQ 0 0));have jw:=xI hW;have Ae:w.heap.size=k.heap.size+2:=by rw[hW];simp
 have kN:w.heap[k.heap.size]?=σ (obM b.1 b.2 a.1 a.2 Y i.length V o (.iface D (rz d)))/\w.heap[k.heap.size+1]?=σ (iQ 0 0):=(by rw[hW];have e2:=ak (k.alloc (obM b.1 b.2 a.1 a.2 Y i.length V o (.iface D (rz d)))) (iQ 0 0);rw[show(k.alloc (obM b.1 b.2 a.1 a.2 Y i.length V o (.iface D (rz d)))).heap.size=k.heap.size+1 by simp]at e2;exact⟨(fu _ _ (by simp)).trans (ak k _),e2⟩)
 have F:=au (λwr (j:δ w.heap.size w wr)=>(show df bx wr an mt mg bd r c/\δ k.heap.size k wr/\wr.heap[k.heap.size]?=σ (obM b.1 b.2 a.1 a.2 Y i.length V o (.iface D (rz d)))/\wr.heap[k.heap.size+1]?=σ (iQ 0 0)/\bz wr 2 (ψ Y i.length V) i.length (EJ i)from by
  have g:=jw.trans (j.mono (by omega));exact⟨h.below g,g,(j.block _ (by omega)).trans kN.1,(j.block _ (by omega)).trans kN.2,bz.below hv g (ae _)⟩))
 have HW:=au hW;obtain⟨hS,-,cG,s,-⟩:=F.J w (ah _ _);obtain⟨H,c1,c2,c3,c4,I,K⟩:=qw cG;obtain⟨f0,f1⟩:=br s;have z0:=fP s 0;have z1:=fP s 1;obtain⟨e0,e1,e2,e3,e4,e5,e6,e7⟩:=fq hS.fQ;have fk:=ay hS.fQ;have IK:=ay cG;have Aa:=ay s;have O2:=hS.find Hz;have qI:=(hS.below (aH (ah _ _))).find Hz;have HH:=au h;have jS:=au s;have po:=au jw;cases hg:fU r (tk a.1)with
 |none=>simp only[hg]at O2 qI;have Ak:Hid (yD (de r c) b a i d o=((5,a.2),de r c)):=au (by unfold yD de;simp only;rw[iM,hg];rfl);clear h hW jw kN hS cG s hg Ae hv;go_in;go_wp2_with fail;rw[<- HW.J];go_region;all_goals (try go_wp2_with fail);obtain⟨⟨L,M⟩,d2⟩:=ik (w1:=w) po.J (bF _) jS.J (ι κ 5) (ι κ a.2);refine aD (sX results285 rfl L M) rfl ?_;rw[Ak.J];exact HH.J.same (aH d2) (5,a.2) rfl
 |some e=>
  simp only[hg]at O2 qI;unfold ij.val at O2 qI;have a4:(tk a.1,e)∈r:=(by have g:=nh hg;exact g)
  have bt:=hS.tab _ a4;obtain⟨ca,jd,PB⟩:=bt.KR.slice;have dd:=au PB;have HT:=au (λwr (j:δ w.heap.size w wr)=>(show wr.heap[e.q]?=σ (.cells #[ψ ca e.cols.length jd,e.sv,ι κ e.Cs.flatten.length] 205 (0,0))/\eT wr (ψ ca e.cols.length jd) e.cols from by
   have g:=(F.J wr j).1.tab _ a4;rw[<- dd.J];exact⟨g.fQ,g.KR⟩))
  have h5:e.cols.length<=5:=bt.Fs.1;have cQ:=au a4;obtain⟨f,rW⟩:=nm w.drew;have Rx:Hid (δ w.heap.size w f):=au (by rw[rW];exact aH (ah _ _));have b8:=au (λwr (j:δ f.heap.size f wr)=>(show Calls prog 286 #[χ #[θ b.1,ι κ b.2,θ a.1,ι κ a.2,ψ Y i.length V,ι κ o,.iface D (rz d)],ψ ca e.cols.length jd] wr (λab w'=>vS wr w' (gG e.cols i []) ab)from by
   have zm:=Rx.J.trans (j.mono Rx.J.size);exact RU rfl cm Bz (F.J wr zm).2.2.2.2 (HT.J wr zm).2 h5))
  have a5:(f.alloc (iQ 0 0)).drew.heap.size=f.heap.size+1:=by show(f.heap.push _).size=_;rw[ej]
  have J5:=au (λu (j:δ (f.alloc (iQ 0 0)).drew.heap.size (f.alloc (iQ 0 0)).drew u)=>(show u.heap[f.heap.size]?=σ (iQ 0 0)/\δ f.heap.size f u from
   ⟨(j.block f.heap.size (by omega)).trans (ak f (iQ 0 0)),(aH ((ah f.heap.size f).alloc (ae _) _)).trans (j.mono (by omega))⟩))
  have bc:=au a5;have U:Hid (yD (de r c) b a i d o=match gG e.cols i []with|.inl bg=>(bg,de r c)|.inr p=>match cL e.cols d with|.inr bg=>(bg,de r c)|.inl O=>if O≠2 then((7,o),de r c)else if(fU (gQ oV.told c) (gk b.1 a.1)).isNone/\8<=(gQ oV.told c).length then((8,0),de r c)else((0,0),⟨gQ ij.told r,qU (gQ oV.told c) (gk b.1 a.1) (p,d)⟩)):=au (by
   unfold yD de;simp only;rw[iM,hg];rfl)
  obtain⟨GI,EW⟩:=HT.J w (ah _ _);obtain⟨P,Q,R⟩:=bf GI;have KM:=ay GI;have vG:=au rW;obtain⟨BI,-,Vi,-,-⟩:=F.J f Rx.J;obtain⟨cl,-⟩:=HT.J f Rx.J;have C2:=au (qw Vi);have Q2:=au (bf cl);have Gx:=Rx.J.size;clear h hW jw kN hS cG s hg Ae hv bt PB GI EW a4 a5 rW BI Vi cl;go_in;go_wp2_with fail;rw[<- HW.J];go_cut[5]from 12 to 25 (λs5 v=>s5=π (σ ⟨e.q,0,ν⟩)/\f=v)
  (case first=>go_region;(all_goals(try go_wp2_with fail));(all_goals go_meet);all_goals exact⟨rfl,vG.J⟩);case rest=>
   obtain⟨rfl,rfl⟩:=hcut;clear O2 qI H c1 c2 c3 c4 I K f0 f1 z0 z1 e0 e1 e2 e3 e4 e5 e6 e7 P Q R vG;obtain⟨H,c1,c2,c3,c4,I,K⟩:=C2.J;obtain⟨P,Q,R⟩:=Q2.J;have en:k.heap.size<f.heap.size:=(by omega);have fa:e.q<f.heap.size:=(by omega);go_wp2_with fail;go_cut[6,7]from 26 to 34 (λs6 s7 v=>∃B C A,∃n:Nat×Nat,∃b9,s6=ψ B C A/\s7=π (σ ⟨b9,0,ν⟩)/\Hid (v.heap[b9]?=σ (iQ n.1 n.2)/\(gG e.cols i []=.inl n\/∃p,gG e.cols i []=.inr p/\n=(0,0)/\v.ownsRow f.heap.size 3 1 (ψ B C A) p.length (p.map nr))/\δ f.heap.size f v))
   case first=>
    go_region_law(refine kC rfl 286 _ _ rfl call286 #[χ #[θ b.1,ι κ b.2,θ a.1,ι κ a.2,ψ Y i.length V,ι κ o,.iface D (rz d)],ψ ca e.cols.length jd] (by first|(simp[Act.eval];done)|(simp[Act.eval,Act.put];done)|rfl) _ (b8.J _ (by first|exact aH (ah _ _)|exact aH ((ah _ _).alloc (ae _) _))) ?_;rintro e' u mP;obtain⟨B,C,A,n,rfl,N,s⟩:=mP.gen;refine⟨_,rfl,?_⟩;clear mP;(first|(have G:=(J5.J u s).1;obtain⟨a0,a1⟩:=br G;have ga:=λbw=>fP G bw;have bb:=au G;clear G)|skip);have J4:Hid (δ f.heap.size f u):=au (by first|exact(aH (ah _ _)).trans s|exact(J5.J u s).2);have cb:=au N;clear N s);(all_goals(try go_wp2_with fail));(all_goals go_meet);all_goals
     first
     |exact⟨B,C,A,n,_,rfl,rfl,au ⟨ak _ _,cb.J.imp id (λ⟨p,g,y,h3⟩=>⟨p,g,y,ct h3 ((ah _ _).alloc (ae _) _)⟩),J4.J.alloc J4.J.size _⟩⟩
     |exact⟨B,C,A,n,_,rfl,rfl,au ⟨aQ _ _ 1 _ _ _ (aQ _ _ 0 _ _ _ bb.J),cb.J.imp id (λ⟨p,g,y,h3⟩=>⟨p,g,y,by
        have fy:∀O,(Value.slice B C A).ownBlock=σ O->O≠f.heap.size:=λO hk=>by
         have:=(h3.lt O hk).1;rw[bc.J]at this;omega
        exact RT (fC h3 (λO hk=>(az _ _ _ _ (fy O hk)).trans (az _ _ _ _ (fy O hk)))) (by rw[bc.J];omega)⟩),(J4.J.setCell (ae _) _).setCell (ae _) _⟩⟩
   case rest=>
    obtain⟨B,C,A,n,b9,rfl,rfl,H9⟩:=hcut;clear H c1 c2 c3 c4 I K P Q R b8 J5 bc;obtain⟨XU,N,aa⟩:=H9.J;obtain⟨o0,o1⟩:=br XU;have VJ:=au (sq n.1 n.2 wc);have dg:=ay XU;clear XU aa N;go_wp2_with fail;refine VJ.J.mono ?_;rintro ab l ⟨rfl,iw⟩;obtain⟨XU,N,aa⟩:=H9.J;have AX:=(iw.block _ dg).trans XU;obtain⟨g0,g1⟩:=br AX;have ql:=Rx.J.trans ((aa.trans (iw.mono aa.size)).mono Rx.J.size);obtain⟨Hn,wX,aC,F2,-⟩:=F.J l ql;obtain⟨NT,U3⟩:=HT.J l ql;obtain⟨f0,f1⟩:=br F2;have z0:=fP F2 0;have z1:=fP F2 1;have e8:=ay F2;have cp:=au F2;have XR:=au wX;have oI:=au ql;by_cases aq:n.1=0
    .obtain⟨p,xB,ea,cj⟩:∃p,gG e.cols i []=.inr p/\n=(0,0)/\wc.ownsRow f.heap.size 3 1 (ψ B C A) p.length (p.map nr):=(by rcases N with g|g;{exact absurd aq (Gi g)};exact g);have z:decide (n.1≠0)=false:=(by simp[aq]);rw[z];have dI:=au (ct cj iw);have d4:=au (ag aa.size iw.size);have La:=au (MT xB List.nodup_nil (by simp));rw[xB]at U;have ZS:=au (λwr (j:δ l.heap.size l wr)=>BV (w:=wr) (e:=d) (pl:=o) DC (bz.below U3 j (ae _)) (ag h5 (by decide)));rw[zq]at ZS;obtain⟨x,hG⟩:=nm (pj e.cols d o);rw[<- hG]at ZS;have HG:=au hG;obtain⟨H,c1,c2,c3,c4,I,K⟩:=qw aC;obtain⟨P,Q,R⟩:=bf NT;have ff:=ay aC;have eK:=ay NT;have a5:(l.alloc (iQ 0 0)).drew.heap.size=l.heap.size+1:=(by show(l.heap.push _).size=_;rw[ej])
     have J5:=au (λu (j:δ (l.alloc (iQ 0 0)).drew.heap.size (l.alloc (iQ 0 0)).drew u)=>(show u.heap[l.heap.size]?=σ (iQ 0 0)/\δ l.heap.size l u from
      ⟨(j.block l.heap.size (by omega)).trans (ak l (iQ 0 0)),(aH ((ah l.heap.size l).alloc (ae _) _)).trans (j.mono (by omega))⟩))
     clear XU N aa iw AX ql Hn wX aC F2 NT U3 g0 g1 f0 f1 z0 z1 z cj xB ea hG a5 o0 o1;go_wp2_with fail;go_cut[8]from 35 to 54 (λs8 v=>∃b9,s8=π (σ ⟨b9,0,ν⟩)/\Hid (v.heap[b9]?=σ (iQ x.1 x.2)/\δ l.heap.size l v))
     case first=>
      go_region_law(refine kC rfl 284 _ _ rfl call284 #[χ #[ι κ o,.iface D (rz d)],ψ ca e.cols.length jd] (by first|(simp[Act.eval];done)|(simp[Act.eval,Act.put];done)|rfl) _ (ZS.J _ (by first|exact aH (ah _ _)|exact aH ((ah _ _).alloc (ae _) _))) ?_;rintro e' u ⟨rfl,s⟩;refine⟨_,rfl,?_⟩;(first|(have G:=(J5.J u s).1;obtain⟨a0,a1⟩:=br G;have ga:=λbw=>fP G bw;have bb:=au G;clear G)|skip);have J4:Hid (δ l.heap.size l u):=au (by first|exact(aH (ah _ _)).trans s|exact(J5.J u s).2);clear s);(all_goals(try go_wp2_with fail));(all_goals go_meet);all_goals
       first
       |exact⟨_,rfl,au ⟨ak _ _,J4.J.alloc J4.J.size _⟩⟩
       |exact⟨_,rfl,au ⟨aQ _ _ 1 _ _ _ (aQ _ _ 0 _ _ _ bb.J),(J4.J.setCell (ae _) _).setCell (ae _) _⟩⟩
     case rest=>
      obtain⟨Dk,rfl,b0⟩:=hcut;clear H c1 c2 c3 c4 I K P Q R ZS J5 H9 VJ;obtain⟨VM,ad⟩:=b0.J;obtain⟨o0,o1⟩:=br VM;have VJ:=au (sq x.1 x.2 wc);have dN:=ay VM;clear VM ad;go_wp2_with fail;refine VJ.J.mono ?_;rintro ab Z ⟨rfl,zn⟩;obtain⟨VM,ad⟩:=b0.J;have RF:=(zn.block _ dN).trans VM;obtain⟨g0,g1⟩:=br RF;have ao:=ad.trans (zn.mono ad.size);have LI:=oI.J.trans (ao.mono oI.J.size);obtain⟨Zu,be,a2,Aw,-⟩:=F.J Z LI;obtain⟨ax,ce⟩:=HT.J Z LI;obtain⟨f0,f1⟩:=br Aw;have z0:=fP Aw 0;have z1:=fP Aw 1;have eq:=ay Aw;have cr:=au Aw;have cB:=au be;have zo:=au LI;have dn:=au (ct dI.J ao);have d5:=au (ag d4.J ao.size);by_cases ar:x.1=0
      .have z:decide (x.1≠0)=false:=(by simp[ar]);rw[z];have DB:=au (aau (cols:=e.cols) (e:=d) (pl:=o) (by rw[<- HG.J];exact ar));rw[DB.J]at U;obtain⟨H,c1,c2,c3,c4,I,K⟩:=qw a2;obtain⟨P,Q,R⟩:=bf ax;obtain⟨e0,e1,e2,e3,e4,e5,e6,e7⟩:=fq Zu.fQ;have fi:=ay a2;have er:=ay ax;have fc:=ay Zu.fQ;obtain⟨W6,av⟩:=nm (Z.alloc (obX b.1 a.1));have WZ:=pq av;have MO:W6.heap[Z.heap.size]?=σ (obX b.1 a.1):=(by rw[av];exact ak Z _);have U5:=zo.J.trans (WZ.mono zo.J.size);have Ho:=au U5;have cS:=au av;have ds:=au (ct dn.J WZ);have d6:=au WZ.size;obtain⟨YU,-⟩:=F.J W6 U5;have TE:=(YU.below (aH (ah _ _))).MR bv Hz;have TF:=(YU.below (aH ((ah _ _).alloc (ae _) (obR ν 0 0 .nilFunc)))).MR bv Hz;have cA:=au MO;obtain⟨m0,m1,m2,m3,m4,m5,m6,m7⟩:=fq YU.fQ;obtain⟨n0,n1⟩:=br MO;have es:=ay YU.fQ;have d7:=ay MO;have fw:=nX;have Uy:=au YU.gr;clear VM ad zn RF LI Zu be a2 Aw ax ce g0 g1 o0 o1 z ao av WZ MO U5 YU;go_wp2_with fail;rw[<- cS.J];clear H c1 c2 c3 c4 I K P Q R f0 f1 z0 z1 e0 e1 e2 e3 e4 e5 e6 e7;go_cut[10,11]from 55 to 63 (λeg el v=>(∃d8,eg=π (σ ⟨d8,0,ν⟩))/\el=.bool (fU c (gk b.1 a.1)).isSome/\Hid (δ W6.heap.size W6 v))
       (case first=>cases hg:fU c (gk b.1 a.1)with|none=>(simp only[hg]at TE TF;have a9:=au hg;go_region;(all_goals(try go_wp2_with fail));(all_goals go_meet);all_goals exact⟨⟨_,rfl⟩,by rw[a9.J];rfl,au (aH ((ah _ _).alloc (ae _) _))⟩)|some bi=>simp only[hg]at TE TF;unfold oV.val at TE TF;obtain⟨u',t',hk,fp,fo,fx,BR,zy⟩:=Uy.J _ (nh hg);obtain⟨sa,mo,DF⟩:=bz.slice zy.shr;have QL:=zy.work;obtain⟨W,X,cn,-⟩:=QL;rw[DF,cn]at TE TF;have fv:=jz W X;have a9:=au hg;clear zy hk BR DF cn hg;go_region;(all_goals(try go_wp2_with fail));(all_goals go_meet);all_goals exact⟨⟨_,rfl⟩,by rw[a9.J];rfl,au (aH ((ah _ _).alloc (ae _) _))⟩);case rest=>
        obtain⟨⟨Gj,rfl⟩,rfl,co⟩:=hcut;obtain⟨t,eb⟩:=nm wc;subst eb;have ap:=co.J;have Fp:=Ho.J.trans (ap.mono Ho.J.size);obtain⟨al,cc,bo,am,-⟩:=F.J t Fp;obtain⟨bm,cf⟩:=HT.J t Fp;clear m0 m1 m2 m3 m4 m5 m6 m7 n0 n1 TE TF;have VL:=(ap.block _ d7).trans cA.J;obtain⟨m0,m1,m2,m3,m4,m5,m6,m7⟩:=fq al.fQ;obtain⟨n0,n1⟩:=br VL;obtain⟨H,c1,c2,c3,c4,I,K⟩:=qw bo;obtain⟨P,Q,R⟩:=bf bm;obtain⟨f0,f1⟩:=br am;have z0:=fP am 0;have z1:=fP am 1;have Mn:(gQ oV.val c).length=c.length:=(by unfold gQ;rw[aR]);have bl:=λty=>al.Ci.len underlying71 ty;rw[Mn]at bl;have db:=bl 3;have et:=ay al.fQ;have dS:=ay VL;have ev:=ay bo;have ex:=ay bm;have cg:=ay am;have ba:=au al;have b5:=au VL;have b3:=au am;have b6:=au cc;have ey:=au Fp;have cd:=au (ct ds.J ap);have eA:f.heap.size<=t.heap.size:=ag d5.J (ag d6.J ap.size);have ci:=au cf;have ck:(gQ oV.told c).length=c.length:=(by unfold gQ;rw[aR]);rw[ck,iM]at U;have eB:=al.few.2;clear ap Fp al cc bo am bm cf VL bl Mn ck;by_cases E:(fU c (gk b.1 a.1)).isSome=false/\8<=c.length;{have h8:((c.length:Nat):Int)>=8:=(by have:=E.2;omega);have a3:=E.1;rw[a3];go_wp2_with fail;obtain⟨⟨L,M⟩,d2⟩:=ik b6.J (bF _) b3.J (ι κ 8) (ι κ 0);refine aD (sX results285 rfl L M) rfl ?_;have Cd:(fU c (gk b.1 a.1)).map oV.told=ν:=(by have g:=E.1;cases hx:fU c (gk b.1 a.1)with|none=>rfl|some bi=>rw[hx]at g;cases g);rw[U.J,aE (by decide),aF ⟨by rw[Cd];rfl,E.2⟩];exact HH.J.same d2 (8,0) rfl}
        have Ak:Hid (yD (de r c) b a i d o=((0,0),⟨gQ ij.told r,qU (gQ oV.told c) (gk b.1 a.1) (p,d)⟩)):=au (by
         rw[U.J,aE (by decide),aE];rintro⟨g,y⟩;apply E;refine⟨?_,y⟩
         cases hx:fU c (gk b.1 a.1)with
         |none=>rfl
         |some bi=>rw[hx]at g;cases g)
        have UD:Hid ((qA c (gk b.1 a.1)).length<8):=au (by
         by_cases h8:c.length<8
         . exact dF (by unfold qA;exact gD _ _) h8
         . cases hx:fU c (gk b.1 a.1)with
           |none=>rw[hx]at E;exact absurd ⟨rfl,by omega⟩ E
           |some bi=>
             have:=aav (nh hx) (anf b.1 a.1);omega)
        have ee:((fU c (gk b.1 a.1)).isSome=true)\/((fU c (gk b.1 a.1)).isSome=false/\¬((c.length:Nat):Int)>=8):=(by cases hx:(fU c (gk b.1 a.1)).isSome with|true=>exact .inl rfl|false=>exact .inr ⟨rfl,λh8=>E ⟨hx,by omega⟩⟩)
        have b2:=au (λwr (j:δ t.heap.size t wr)=>(show Calls prog 153 #[.iface D (rz d),ψ ca e.cols.length jd] wr (λab w'=>∃ac,ab=.returned ac/\dX w' wr.heap.size ac (iy e.cols) (λrow=>cU e.cols row d)/\δ wr.heap.size wr w')from by
         rw[<- zq];exact Ai (by omega) d DC 2 DB.J wr wr.heap.size _ (bz.below ci.J j (ae _)) (ae _)))
        have b7:=au (λm (j:δ t.heap.size t m) ac=>(ba.J.below j).Ci.put Tryz.ud underlying71 (JU bv Hz) (by unfold gQ;rw[aR];omega) ac);have b1:=au (λm (j:δ t.heap.size t m)=>(show(m.cell? ⟨an,7,ν⟩=σ (.map (σ mg))/\an<m.heap.size)/\(m.cell? ⟨Z.heap.size,0,ν⟩=σ (θ b.1)/\m.cell? ⟨Z.heap.size,1,ν⟩=σ (θ a.1)/\Z.heap.size<m.heap.size)from by
         have g:=(ba.J.below j).fQ;have y:=(j.block _ dS).trans b5.J;exact⟨⟨(fq g).2.2.2.2.2.2.2,ay g⟩,(br y).1,(br y).2,ay y⟩))
        clear E m0 m1 m2 m3 m4 m5 m6 H c1 c2 c3 c4 I Q R f0 f1 z0 z1;go_upto_region 12 with fail
        go_cut[11,73]from 64 to 72 (λ_ em v=>em=.bool false/\t=v)
        (case first=>rcases ee with a3|⟨a3,h8⟩;all_goals rw[a3];go_wp2_with fail;go_meet;first|exact⟨rfl,rfl⟩|exact⟨by simp[h8],rfl⟩|exact⟨by simp_all,rfl⟩);case rest=>
        obtain⟨rfl,rfl⟩:=hcut;clear db;go_wp2_with fail;go_cut[]from 74 to 250 (λv=>Hid (∃m W X lo,δ t.heap.size t m/\t.heap.size<=lo/\lo<=m.heap.size/\dX m lo (.func (.func W) #[] X) (iy e.cols) (λrow=>cU e.cols row d)/\lS v 198 mg (qU (gQ oV.val c) (gk b.1 a.1) (χ #[ψ B C A,.func (.func W) #[] X]))/\m.grownBy v (σ mg)))
        (case first=>go_region_law(refine kC rfl 153 _ _ rfl call153 #[.iface D (rz d),ψ ca e.cols.length jd] (by first|(simp[Act.eval];done)|(simp[Act.eval,Act.put];done)|rfl) _ (b2.J _ (aH (ah _ _))) ?_;rintro e' m ⟨v8,rfl,G4,T⟩;have dl:=G4;obtain⟨W,X,rfl,-⟩:=dl;refine⟨_,rfl,?_⟩;have a8:Hid (δ t.heap.size t m):=au ((aH (ah _ _)).trans T);have c8:=au T.size;have c7:=au G4;obtain⟨w9,fs,hM,lW⟩:=b7.J m a8.J (χ #[ψ B C A,.func (.func W) #[] X]);have cN:=au hM;have cx:=au lW;obtain⟨⟨j0,j1⟩,j2,j3,j4⟩:=b1.J m a8.J;clear G4 T hM lW);(all_goals(try go_wp2_with fail));(all_goals go_meet);all_goals exact au ⟨m,W,X,_,a8.J,ae _,c8.J,c7.J,cN.J,cx.J⟩);case rest=>obtain⟨m,W,X,lo,T,oA,c9,G4,hM,lW⟩:=hcut.J;have ed:=HH.J.Ci.lt;have Y2:k.heap.size+1≠mg:=(by omega);have d9:=T.size;have QH:=(lW.block (k.heap.size+1) (by omega) (λd=>Y2 (bk d))).trans ((T.block _ cg).trans b3.J);have wP:=La.J;have d3:0<i.length:=jL.mpr cm;have b4:Hid (ael e.cols (p,d)):=au ⟨by show 0<p.length;rw[wP.1];simp;omega,ag wP.2.1 h5,wP.2.2,DC,DB.J⟩;have uT:=au (λW9 (e9:W9=(wc.setCell ⟨k.heap.size+1,0,ν⟩ (ι κ 0)).setCell ⟨k.heap.size+1,1,ν⟩ (ι κ 0))=>aat HH.J hu.1 ht.1 cQ.J b6.J T lW cg e9 cd.J (by omega) oA G4 hM UD.J b4.J Ak.J);obtain⟨fd,fe⟩:=br QH;have y0:=fP QH 0;have y1:=fP QH 1;have fb:=ay QH;have cv:=au QH;clear T oA c9 G4 hM lW ed Y2 QH hcut d9 m7 n0 n1 K P b2 b7 b1 b5 ba cd ci DB Ak UD La F HT wP d3 b4;go_wp2_with fail;obtain⟨L,M⟩:=br (aQ _ _ 1 _ _ (ι κ 0) (aQ _ _ 0 _ _ (ι κ 0) cv.J));refine aD (sX results285 rfl L M) rfl ?_;exact uT.J _ rfl
      have z:decide (x.1≠0)=true:=(by simpa using ar);rw[z];have Ak:Hid (yD (de r c) b a i d o=(x,de r c)):=au (by rw[U.J,HG.J];exact aeF (by rw[<- HG.J];exact ar) _ _);clear VM ad zn RF LI Zu be a2 Aw ax ce o0 o1 z ao;go_wp2_with fail;obtain⟨⟨L,M⟩,d2⟩:=ik cB.J (bF _) cr.J (ι κ x.1) (ι κ x.2);refine aD (sX results285 rfl L M) rfl ?_;rw[Ak.J];exact HH.J.same d2 x rfl
    obtain xB:gG e.cols i []=.inl n:=(by rcases N with g|⟨p,-,y,-⟩;{exact g};rw[y]at aq;exact absurd rfl aq);rw[xB]at U;have z:decide (n.1≠0)=true:=(by simpa using aq);rw[z];clear XU N aa iw AX ql Hn wX aC F2 NT U3 z xB;go_wp2_with fail;obtain⟨⟨L,M⟩,d2⟩:=ik XR.J (bF _) cp.J (ι κ n.1) (ι κ n.2);refine aD (sX results285 rfl L M) rfl ?_;rw[U.J];exact HH.J.same d2 n rfl
end
