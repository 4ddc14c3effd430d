import Derived.Test.YtfeckmaleonjjaaGreatDoorFAN
import Derived.Test.YtfeckmaleonjjaaGreatDoorFAO
set_option maxHeartbeats 0
set_option maxRecDepth 100000
namespace Go.Proofs.YtfeckmaleonjjaaGreatDoor
open List renaming length→Λ
open Go.RowKit
open _root_.Go.Proofs.Tryz
open Go renaming World→ω
open Go.Value renaming string→θ,slice→ψ,agg→χ
namespace S
def np(ep:Bool)(k least:Int)(width:Nat)(c:Cl):Δ Bool:=
 (if ep then[c.bH]else[])++(if c.bH then[]else if k=1 then eu c.s.size 4++kB 7 c.s.data.toList else eu (c.n - least).toNat width)
def fR(ep:Bool)(k least:Int)(width:Nat)(cs:Δ Cl):Δ Bool:=cs.flatMap (np ep k least width)
theorem sL(a:Bool)(b c:Int)(d:Nat)(f:Δ Cl)(e:Cl):fR a b c d (f++[e])=fR a b c d f++np a b c d e:=by simp[fR,List.flatMap_append]
theorem K3(c:Bool)(d e:Int)(b:Nat)(a:Cl)(j:b<=64)(i:a.s.size<=12):(np c d e b a).length<=89:=by
 unfold np;rw[au];have f:(if c then[a.bH]else[]).length<=1:=by split<;>simp
 have g:(if a.bH then[]else if d=1 then eu a.s.size 4++kB 7 a.s.data.toList else eu (a.n - e).toNat b).length<=88:=(by split;{simp};split;{simp only[List.length_append,cA,mO,jC];omega};rw[cA];omega);omega
theorem Aq(c:Bool)(d e:Int)(b:Nat)(f:Δ Cl)(m:b<=64)(g:∀a∈f,a.s.size<=12):(fR c d e b f).length<=89*Λ f:=by induction f with|nil=>simp[fR]|cons a i n=>have k:fR c d e b (a::i)=np c d e b a++fR c d e b i:=rfl;have o:=K3 c d e b a m (g a (by simp));have p:=n (λj l=>g j (by simp[l]));rw[k,au,cw];omega
def yG(k:Int)(cs:Δ Cl):Δ Bool:=
 [cs.any λc=>c.bH]++(if k=1 then[]else qG (leastOf (eI cs))++eu (bitLen (oJ (eI cs))) 7)++fR (cs.any λc=>c.bH) k (leastOf (eI cs)) (bitLen (oJ (eI cs))) cs
theorem QK{b:Δ Cl}{a:Cl}(c:a∈b)(d:a.bH=false):a.n∈eI b:=by simp only[eI,List.mem_map,List.mem_filter];exact⟨a,⟨c,by simp[d]⟩,rfl⟩
theorem K4(g:Nat->Prop)(j:Nat)(p:Δ Bool)(f:Int)(b:Δ Cl)(N:Option Addr)(o y O:Nat)(r:ω)(Y:eL g r j p)
 (G:0<Λ b->N=some (Ad o y)) (T:kC r o y b) (R:0<Λ b->g o) (x:∀a∈b,Aj a) (a1:Λ b<=64) (hb:Λ p<=1000) :
 Calls prog 351 #[χ #[],.pointer (some (Ad j 0)),.int .i64 f,ψ N (Λ b) O] r λk C=>k=.returned (.tuple #[])/\eL g C j (p++yG f b)/\bu g r C:=by
 have V:=bu.uN (dG r (.cells #[] 343) none) Y.old;have KP:kC (r.alloc (.cells #[] 343)) o y b:=(by intro e a w;exact T.kept V (R (by have:=(ah.1 w).1;omega)) e a w);have ad:=ak (WE (w:=r.alloc (.cells #[] 343)) (cap:=O) (.inl ⟨rfl,λ_=>rfl⟩) G KP (by omega));have HE:=ak (show yG f b=[b.any λa=>a.bH]++(if f=1 then[]else qG (leastOf (eI b))++eu (bitLen (oJ (eI b))) 7)++fR (b.any λa=>a.bH) f (leastOf (eI b)) (bitLen (oJ (eI b))) b from rfl);have M:=Bf (λa d=>(x a d).1);have H:=uY M;have Hw:=nT (Hb M);have DV:∀a∈b,a.bH=false->IntKind.u64.wrap (IntKind.u64.wrap a.n - IntKind.u64.wrap (leastOf (eI b)))=(((a.n - leastOf (eI b)).toNat:Nat):Int)/\(a.n - leastOf (eI b)).toNat<18446744073709551616:=(by intro a d i;have c:=IX (QK d i);refine⟨QD (x a d).1 H c,?_⟩;have l:=(x a d).1;unfold dK at l H;omega);have al:∀a∈b,(b.any λa=>a.bH)=false->a.bH=false:=(by intro a d i;have:=jh.1 i a d;simpa using this);have aa:=λ(C:ω) (EY:kC C o y b)=>ak (QE b N o y O C G EY (by omega) (λa d=>(x a d).1));generalize akC:(b.any λa=>a.bH)=ep at *;generalize leastOf (eI b)=least at *;generalize bitLen (oJ (eI b))=width at *;have HC:=ak T;have HO:=ak x;have ag:=ak (Y.alloc (.cells #[] 343));have ao:=ak V;have ac:=ak H;have ar:=ak DV;have av:=ak al;have am:=ak aa;clear T x Y V KP M H DV al akC aa;go_in;go_wp21;refine ad.J.mono ?_;rintro k w1 ⟨rfl,c⟩;have K:=nG c;have Ko:=ak (ag.J.xq K);have L:=ak (ao.J.trans (bu.uN K ag.J.old));clear c K ad;go_wp21;refine(Qw g j p ep _ Ko.J (by omega)).mono ?_;rintro k w2 ⟨rfl,c,l⟩;have yn:=ak c;have s:=ak (L.J.trans l);have qE:kC w2 o y b:=(by intro e a w;exact HC.J.kept s.J (R (by have:=(ah.1 w).1;omega)) e a w);have HF:=am.J w2 qE;clear c l qE am;go_wp21;refine HF.J.mono ?_;rintro k w3 ⟨rfl,c⟩;have U:=nG c;have SN:=ak (yn.J.xq U);have EK:=ak (s.J.trans (bu.uN U yn.J.old));clear c U HF;have⟨z,t⟩:=nm ((if f=1 then[]else qG least++eu width 7));rw[<- t]at HE;have Dk:(qG least).length<=72:=by rw[wE];have:=nT (Ah ac.J);omega
 have a0:Λ z<=79:=(by rw[t];split;{simp};rw[au,cA];omega);by_cases c:f=1;(case' pos=>have t1:(f != 1)=false:=(by simp[c]);have t2:(f==1)=true:=(by simp[c]);rw[aN c]at t;have ai:eL g w3 j (p++[ep]++z):=(by rw[t];simpa using SN.J);have ab:=EK.J);(case' neg=>have t1:(f != 1)=true:=(by simp[c]);have t2:(f==1)=false:=(by simp[c]);rw[aH c]at t;go_wp21;refine(B3 g j _ least _ SN.J ac.J (by simp only[List.length_append,List.length_cons,List.length_nil];omega)).mono ?_;rintro k w4 ⟨rfl,A,F⟩;go_wp21;refine(oe g j _ _ _ _ A (by omega) (by omega) (by omega) (by simp only[List.length_append,List.length_cons,List.length_nil];rw[show Int.toNat 7=7 from rfl];omega)).mono ?_;rintro k w5 ⟨rfl,v,Q⟩;have ai:eL g w5 j (p++[ep]++z):=(by rw[t];simpa only[List.append_assoc,Int.toNat_natCast,show Int.toNat 7=7 from rfl]using v);have ab:=(EK.J.trans F).trans Q);all_goals
  have L:=ak c;clear c t;go_wp2;go_loopw[34] (λP wr=>∃e:Nat,e<=Λ b/\P=.int .i64 e/\eL g wr j (p++[ep]++z++fR ep f least width (b.take e))/\bu g r wr) (λP _=>Λ b - (intOf P).toNat);case atStart=>exact⟨0,aB _,rfl,by simpa[fR]using ai,ab⟩
  case round=>
   obtain⟨e,w,rfl,u,s⟩:=hrel;by_cases cK:e<Λ b
   .have gY:=aX.2 cK;obtain⟨a,I⟩:∃a,b[e]?=some a:=⟨b[e],af cK⟩;obtain rfl:=G (by omega);have⟨c0,c1,c2⟩:=HC.J.kept s (R (by omega)) e a I;have lu:o<wr.heap.size:=bT _ _ c0;have D:=aq I;have Mr:=(HO.J a D).2;have aT:=Aq ep f least width (b.take e) Hw (λaC hd=>(HO.J aC (iE hd)).2);rw[bZ]at aT;have HI:=ak I;have X:=ar.J a D;have an:=av.J a D;have⟨l0,E⟩:=nm (p++[ep]++z++fR ep f least width (b.take e));have Wn:Λ l0<=200000:=(by rw[E];simp only[List.length_append,List.length_cons,List.length_nil];omega);rw[<- E]at u;have ap:=ak E;have m:=u.also (K':=K2 g wr.heap.size (wr.heap.size+1)) (dG wr (zc a.bH a.n a.s) none) (λa3 hj=>hj.elim Or.inl (λd=>Or.inr ⟨d.1,by simpa using d.2⟩));have n:=s.alloc u.old (zc a.bH a.n a.s);obtain⟨Z,q1,B⟩:(wr.alloc (zc a.bH a.n a.s)).cell? (Ad wr.heap.size 0)=some (.bool a.bH)/\(wr.alloc (zc a.bH a.n a.s)).cell? (Ad wr.heap.size 1)=some (.int .i64 a.n)/\(wr.alloc (zc a.bH a.n a.s)).cell? (Ad wr.heap.size 2)=some (θ a.s):=⟨by rw[dj _ _ _ _ rfl];rfl,by rw[dj _ _ _ _ rfl];rfl,by rw[dj _ _ _ _ rfl];rfl⟩;clear I G D E u s;have A:(ep=false/\a.bH=false)\/(ep=true/\a.bH=false)\/(ep=true/\a.bH=true):=(by cases i:ep;{exact .inl ⟨rfl,an i⟩};cases a.bH<;>simp);rcases A with⟨rfl,i⟩|⟨rfl,i⟩|⟨rfl,i⟩;all_goals
     (try have ax:=ak (X i).1);(try have a2:=(X i).2);have HN:=ak i;rw[i]at c0 Z q1 B m n;clear X an i;go_wp21
     (try
       (with_reducible refine dM (Qw _ j _ _ _ m (by omega)) ?_)
       rintro k w1 ⟨rfl,c,l⟩
       replace Z:=(l.cell (p:=(Ad wr.heap.size 0)) (Or.inr ⟨ae _,sY _⟩)).trans Z
       replace q1:=(l.cell (p:=(Ad wr.heap.size 1)) (Or.inr ⟨ae _,sY _⟩)).trans q1
       replace B:=(l.cell (p:=(Ad wr.heap.size 2)) (Or.inr ⟨ae _,sY _⟩)).trans B
       replace n:=n.trans (l.mono (λ_ d=>Or.inl d))
       replace m:=c;go_wp2_with fail)
     (try
       (try rw[ax.J])
       refine(oe _ j _ _ _ _ m (by omega) (by omega) (by omega) (by simp;omega)).mono ?_;rintro k w2 ⟨rfl,A,F⟩
       replace B:=(F.cell (p:=(Ad wr.heap.size 2)) (Or.inr ⟨ae _,sY _⟩)).trans B
       replace n:=n.trans (F.mono (λ_ d=>Or.inl d))
       replace m:=A
       (try go_wp2_with fail)
       (try
         refine(B1 _ j _ a.s _ _ m (by omega) (by omega) (by omega) (by simp[cA];omega)).mono ?_;rintro k w3 ⟨rfl,v,Q⟩
         replace n:=n.trans (Q.mono (λ_ d=>Or.inl d))
         replace m:=v))
     (try go_wp2);go_roundw;(case rel=>refine⟨e+1,by omega,by go_num,?_,n⟩;rw[iG HI.J,sL,<- cC,<- ap.J];have v:=m.less (K':=g) (λ_ d=>Or.inl d);(try rw[cm]at v);simpa[np,HN.J,L.J]using v);case measure=>simp[intOf];omega
   obtain rfl:e=Λ b:=(by omega);go_wp2;go_end0;refine⟨rfl,?_,s⟩;rw[aQ (ae _)]at u;rw[HE.J];simpa only[List.append_assoc]using u
end S
namespace S
theorem wG(a:Int)(b:ω):Calls prog 46 #[.int .i64 a] b λc d=>c=.returned (.bool (decide (0<=a/\a<=3)))/\b=d:=by
 go_in;go_wp2;all_goals(go_ret;refine⟨bI Ending.returned (bI Value.bool ?_),rfl⟩)
 all_goals first|(simp_all;done)|(simp_all;omega)
theorem I9(a:Int)(b:ω):Calls prog 201 #[.int .i64 a] b λc d=>c=.returned (.bool (decide (0<=a/\a<=2)))/\b=d:=by
 go_in;go_wp2;all_goals(go_ret;refine⟨bI Ending.returned (bI Value.bool ?_),rfl⟩)
 all_goals first|(simp_all;done)|(simp_all;omega)
theorem D9(a:Int)(b:ω):Calls prog 185 #[.int .i64 a] b λc d=>c=.returned (.iface (if a=1 then 341 else if a=2 then 342 else if a=3 then 343 else 344) (χ #[]))/\b=d:=by
 go_in;go_wp2;all_goals(go_ret;refine⟨?_,rfl⟩)
 all_goals simp_all
def strOf(bs:Δ Nat):Γ:=⟨(bs.map UInt8.ofNat).toArray⟩
def body(p k:Int)(cs:Δ Cl):Δ Bool:=if p=1 then pA k cs else if p=2 then yF k cs else if p=3 then yG k cs else jo k cs
def qv(p k:Int)(cs:Δ Cl):Δ Bool:=eu p.toNat 8++eu k.toNat 8++eu (Λ cs) 8++body p k cs
theorem Uz(a:ω):eL (·<a.heap.size) (a.alloc (.cells #[ψ none 0 0,.int .i64 0] 348)) a.heap.size []:=by refine⟨ψ none 0 0,[],Lays.nil,?_,?_,?_,?_,eM _ _ _ _,?_,?_,?_,?_⟩;{rw[dj _ _ _ _ rfl];rfl};{rw[dj _ _ _ _ rfl];rfl};{exact jY _ _ _ _ rfl};{exact jY _ _ _ _ rfl};{simp[Value.ownBlock]};{simp};{intro c b;simp[Value.ownBlock]at b};intro e d;simp;omega
theorem fold_push(c:Δ Nat):∀(a:Γ),(c.map (λ(b:Nat)=>(b:Int))).foldl (λd b=>d.push (UInt8.ofNat b.toNat)) a=⟨a.data++(c.map UInt8.ofNat).toArray⟩:=by induction c with|nil=>(intro a;simp)|cons b d e=>intro a;rw[jN,ke,e];congr 1;simp[ByteArray.push]
theorem agm{d:Nat->Prop}{a:ω}{j b c:Nat}{bs:Δ Nat}{g:Δ Bool}(e:Wr d a j (.slice (some ⟨b,0,none⟩) (Λ bs) c) bs g):(convert 252 9 (.slice (some ⟨b,0,none⟩) (Λ bs) c)).run prog a=.ok (θ (strOf bs)) a:=by rw[qp a 252 9 5 _ _ _ underlying252 underlying5 underlying9];have f:(loadCells ⟨b,0,none⟩ (Λ bs)).run prog a=.ok ((bs.map (λ(i:Nat)=>(i:Int))).map (Value.int .u8)).toArray a:=(by have:=vw (P:=prog) a ⟨b,0,none⟩ (EP bs) (e.own.cells rfl);rw[show(EP bs).length=Λ bs by simp[EP]]at this;rw[this];simp[EP,Function.comp_def]);rw[v7 a _ _ _ _ f,fold_push];simp[strOf]
def kK(P:Program)(t:TypeId)(i:Nat):String:=match P.underlying t with|some (.interface ms)=>(ms.toList.map Prod.fst).getD i default|_=>default
theorem Tryz.agn(a:ω):(method 576 341 (χ #[]) (kK prog 324 1)).run prog a=.ok (338,χ #[]) a:=by kernel_rfl
theorem Tryz.agp(a:ω):(method 576 342 (χ #[]) (kK prog 324 1)).run prog a=.ok (348,χ #[]) a:=by kernel_rfl
theorem Tryz.agq(a:ω):(method 576 343 (χ #[]) (kK prog 324 1)).run prog a=.ok (351,χ #[]) a:=by kernel_rfl
theorem Tryz.agr(a:ω):(method 576 344 (χ #[]) (kK prog 324 1)).run prog a=.ok (356,χ #[]) a:=by kernel_rfl
theorem Ms(c b:Int)(a:Δ Cl)(n:Option Addr)(d l o:Nat)(k:ω)(M:0<Λ a->n=some ⟨d,l,none⟩)(F:kC k d l a)(V:Λ a<=o)(C:Λ a<=64)(hn:∀g∈a,dK g.n)
 (hs:∀g∈a,g.s.size<=140737488351232) (an:0<=c) (ao:c<=3) (Wb:0<=b) (mL:b<=2) (O:a.all (okB b)=true) :
 Calls prog 186 #[.int .i64 c,.int .i64 b,ψ n (Λ a) o] k λi w'=>(∃bs,Lays bs (qv c b a)/\i=.returned (.tuple #[θ (strOf bs),.int .i64 0]))/\Below k.heap.size k w':=by
 have al:(Λ a:Int)<=64:=by omega
 have H:=B6 b a n d l o k M F (by omega) hs;rw[O]at H;have ag:decide (0<=c/\c<=3)=true:=by simp;omega
 have Z:decide (0<=b/\b<=2)=true:=by simp;omega
 have K:=wG c k;have L:=I9 b k;rw[ag]at K;rw[Z]at L;have aa:∀g∈a,Aj g:=λg p=>Fl (Am (hn g p) (gQ.1 O g p));have y:=ak aa;go_in;go_wp21;refine K.mono ?_;rintro i r ⟨rfl,rfl⟩;go_wp21;refine L.mono ?_;rintro i r ⟨rfl,rfl⟩;go_wp21;refine H.mono ?_;rintro i r ⟨rfl,e⟩;have v:=e;go_wp21;refine(oe _ _ _ _ _ _ (Uz r) (by omega) (by omega) (by omega) (by simp)).mono ?_;rintro i w2 ⟨rfl,e,j⟩;have yn:=e;have U:=((bu.refl (·<r.heap.size) r).alloc (λ_ p=>p) _).trans j;go_wp21;refine(oe _ _ _ _ _ _ yn (by omega) (by omega) (by omega) (by simp[cA])).mono ?_;rintro i w3 ⟨rfl,e,j⟩;have Y:=e;have P:=U.trans j;go_wp21;refine(oe _ _ _ _ _ _ Y (by omega) (by omega) (by omega) (by simp[cA])).mono ?_;rintro i s ⟨rfl,e,j⟩;have z:=e;have I:=P.trans j;go_wp21;refine(D9 c s).mono ?_;rintro i w5 ⟨rfl,rfl⟩;have D:kC s d l a:=(by intro ai g hi;obtain⟨e,j,h3⟩:=F ai g hi;have u:d<k.heap.size:=bT _ _ e;have G:=v.trans (I.aU.mono v.size);exact⟨(G.cell (p:=⟨d,_,none⟩) u).trans e,(G.cell (p:=⟨d,_,none⟩) u).trans j,(G.cell (p:=⟨d,_,none⟩) u).trans h3⟩);have X:0<Λ a->d<r.heap.size:=(by intro p;have h0:=(F 0 a[0] (af p)).1;have u:d<k.heap.size:=bT _ _ h0;exact aw u v.size);have B:=ak X;have A:=ak M;have Wn:([]++eu c.toNat (Int.toNat 8)++eu b.toNat (Int.toNat 8)++eu (Λ a:Int).toNat (Int.toNat 8)).length<=1000:=(by simp only[List.length_append,cA,List.length_nil];rw[show Int.toNat 8=8 from rfl];omega);have E:=ak Wn;have hm:=Tryz.agn;have ab:=Tryz.agp;have ac:=Tryz.agq;have ad:=Tryz.agr;simp[kK,underlying324]at hm ab ac ad;have N:qv c b a=[]++eu c.toNat (Int.toNat 8)++eu b.toNat (Int.toNat 8)++eu (Λ a:Int).toNat (Int.toNat 8)++body c b a:=(by unfold qv;rw[cm];rfl);have Q:=ak N;clear N;rcases(show c=1\/c≠1/\c=2\/c≠1/\c≠2/\c=3\/c≠1/\c≠2/\c≠3 by omega)with f|⟨f,m⟩|⟨f,m,w⟩|⟨f,m,w⟩
 all_goals
  first
   | (rw[aN f];have x:=ak (show body c b a=pA b a from aN f))
   | (rw[aH f,aN m];have x:=ak (show body c b a=yF b a from(aH f).trans (aN m)))
   | (rw[aH f,aH m,aN w];have x:=ak (show body c b a=yG b a from(aH f).trans ((aH m).trans (aN w))))
   | (rw[aH f,aH m,aH w];have x:=ak (show body c b a=jo b a from(aH f).trans ((aH m).trans (aH w))))
  go_wp21;first
   |refine(KU _ _ _ b a n d l o s z A.J D B.J y.J C V E.J).mono ?_
   |refine(K0 _ _ _ b a n d l o s z A.J D B.J y.J C E.J).mono ?_
   |refine(K4 _ _ _ b a n d l o s z A.J D B.J y.J C E.J).mono ?_
   |refine(II _ _ _ b a n d l o s z A.J D B.J y.J C E.J).mono ?_
  rintro i w6 ⟨rfl,e,j⟩;rw[<- x.J,<- Q.J]at e;have R:=v.trans ((I.trans j).aU.mono v.size);obtain⟨ar,bs,t⟩:=e;have mo:0<Λ bs:=by rw[t.lays.len];unfold qv;simp only[List.length_append,cA];omega
  obtain⟨am,zB,rfl⟩:=t.slice mo;have ht:=agm t;have ap:=t.sl;have T:=t.lays;go_wp2;go_ret2;exact⟨⟨bs,T,rfl⟩,R⟩
end S
