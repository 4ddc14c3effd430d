import Derived.Test.YtcoaphfimellcaaGreatDoorQAU
import Derived.Test.YtcoaphfimellcaaGreatDoorQAV
set_option maxHeartbeats 0
set_option maxRecDepth 100000
namespace Go.Proofs.YtcoaphfimellcaaGreatDoor
open Go.RowKit
open _root_.Go.Proofs.Tryz
open Option renaming some→σ,none→ν
open Go.IntKind renaming i64→κ
open Go.Ending renaming returned→τ
open Go.Obj renaming cells→ξ
open Go renaming World→ω
open Go.RowKit renaming Below→δ
open Go.Value renaming int→ι,string→θ,slice→ψ,pointer→π,agg→χ
namespace S
def mb(dx:Bool)(k least:Int)(width:Nat)(c:Cl):List Bool:=
 (if dx then[c.null]else[])++(if c.null then[]else if k=1 then bitsOf c.s.size 4++jr 7 c.s.data.toList else bitsOf (c.n - least).toNat width)
def eK(dx:Bool)(k least:Int)(width:Nat)(cs:List Cl):List Bool:=cs.flatMap (mb dx k least width)
theorem qZ(a:Bool)(b c:Int)(d:Nat)(f:List Cl)(e:Cl):eK a b c d (f++[e])=eK a b c d f++mb a b c d e:=by simp[eK,List.flatMap_append]
theorem JK(c:Bool)(d e:Int)(b:Nat)(a:Cl)(j:b<=64)(i:a.s.size<=12):(mb c d e b a).length<=89:=by
 unfold mb;rw[az];have f:(if c then[a.null]else[]).length<=1:=by split<;>simp
 have g:(if a.null then[]else if d=1 then bitsOf a.s.size 4++jr 7 a.s.data.toList else bitsOf (a.n - e).toNat b).length<=88:=(by split;{simp};split;{simp only[List.length_append,bM,lE,iq];omega};rw[bM];omega);omega
theorem yQ(c:Bool)(d e:Int)(b:Nat)(f:List Cl)(m:b<=64)(g:∀a∈f,a.s.size<=12):(eK c d e b f).length<=89*f.length:=by
 induction f with
 |nil=>simp[eK]
 |cons a i n=>
   have k:eK c d e b (a::i)=mb c d e b a++eK c d e b i:=rfl;have o:=JK c d e b a m (g a (by simp));have p:=n (λj l=>g j (by simp[l]));rw[k,az,a7];omega
def xd(k:Int)(cs:List Cl):List Bool:=
 [cs.any λc=>c.null]++(if k=1 then[]else pA (leastOf (dE cs))++bitsOf (bitLen (nE (dE cs))) 7)++eK (cs.any λc=>c.null) k (leastOf (dE cs)) (bitLen (nE (dE cs))) cs
theorem Oh{b:List Cl}{a:Cl}(c:a∈b)(d:a.null=false):a.n∈dE b:=by simp only[dE,List.mem_map,List.mem_filter];exact⟨a,⟨c,by simp[d]⟩,rfl⟩
theorem JL(g:Nat->Prop)(j:Nat)(p:List Bool)(f:Int)(b:List Cl)(O:Option Addr)(o y P:Nat)(r:ω)(W:Writer g r j p)
 (G:0<b.length->O=σ (Ad o y)) (U:mT r o y b) (T:0<b.length->g o) (x:∀a∈b,yM a) (a0:b.length<=64) (hb:p.length<=1000) :
 Calls prog 340 #[χ #[],π (σ (Ad j 0)),ι κ f,ψ O b.length P] r λk C=>k=τ (.tuple #[])/\Writer g C j (p++xd f b)/\aX g r C:=by
 have M:=aX.tq (cR r (ξ #[] 370) ν) W.old;have FG:mT (r.alloc (ξ #[] 370)) o y b:=(by intro e a w;exact U.kept M (T (by have:=(aj.1 w).1;omega)) e a w);have ac:=ak (UF (w:=r.alloc (ξ #[] 370)) (cap:=P) (.inl ⟨rfl,λ_=>rfl⟩) G FG (by omega));have HE:=ak (show xd f b=[b.any λa=>a.null]++(if f=1 then[]else pA (leastOf (dE b))++bitsOf (bitLen (nE (dE b))) 7)++eK (b.any λa=>a.null) f (leastOf (dE b)) (bitLen (nE (dE b))) b from rfl);have L:=zQ (λa d=>(x a d).1);have H:=tI L;have yv:=mS (Gc L);have CF:∀a∈b,a.null=false->IntKind.u64.wrap (IntKind.u64.wrap a.n - IntKind.u64.wrap (leastOf (dE b)))=(((a.n - leastOf (dE b)).toNat:Nat):Int)/\(a.n - leastOf (dE b)).toNat<18446744073709551616:=(by intro a d i;have c:=G8 (Oh d i);refine⟨Oa (x a d).1 H c,?_⟩;have l:=(x a d).1;unfold cK at l H;omega);have al:∀a∈b,(b.any λa=>a.null)=false->a.null=false:=(by intro a d i;have:=lP.1 i a d;simpa using this);have aa:=λ(C:ω) (Ci:mT C o y b)=>ak (Ob b O o y P C G Ci (by omega) (λa d=>(x a d).1));generalize ai5:(b.any λa=>a.null)=dx at *;generalize leastOf (dE b)=least at *;generalize bitLen (nE (dE b))=width at *;have HC:=ak U;have HO:=ak x;have Qw:=ak (W.alloc (ξ #[] 370));have UI:=ak M;have ab:=ak H;have ap:=ak CF;have aq:=ak al;have am:=ak aa;clear U x W M FG L H CF al ai5 aa;go_in;go_wp2_with fail;refine ac.J.mono ?_;rintro k w1 ⟨rfl,c⟩;have K:=mD c;have B6:=ak (Qw.J.vJ K);have Z:=ak (UI.J.trans (aX.tq K Qw.J.old));clear c K ac;go_wp2_with fail;refine(N8 g j p dx _ B6.J (by omega)).mono ?_;rintro k w2 ⟨rfl,c,l⟩;have uz:=ak c;have s:=ak (Z.J.trans l);have sd:mT w2 o y b:=(by intro e a w;exact HC.J.kept s.J (T (by have:=(aj.1 w).1;omega)) e a w);have HF:=am.J w2 sd;clear c l sd am;go_wp2_with fail;refine HF.J.mono ?_;rintro k w3 ⟨rfl,c⟩;have N:=mD c;have CD:=ak (uz.J.vJ N);have EV:=ak (s.J.trans (aX.tq N uz.J.old));clear c N HF;obtain⟨z,t⟩:=nm ((if f=1 then[]else pA least++bitsOf width 7));rw[<- t]at HE;have Kr:(pA least).length<=72:=by rw[uZ];have:=mS (yJ ab.J);omega
 have aC:z.length<=79:=(by rw[t];split;{simp};rw[az,bM];omega);by_cases c:f=1;(case' pos=>have t1:(f != 1)=false:=(by simp[c]);have t2:(f==1)=true:=(by simp[c]);rw[aF c]at t;have ad:Writer g w3 j (p++[dx]++z):=(by rw[t];simpa using CD.J);have yl:=EV.J);(case' neg=>have t1:(f != 1)=true:=(by simp[c]);have t2:(f==1)=false:=(by simp[c]);rw[aE c]at t;go_wp2_with fail;refine(AZ g j _ least _ CD.J ab.J (by simp only[List.length_append,List.length_cons,List.length_nil];omega)).mono ?_;rintro k w4 ⟨rfl,A,F⟩;go_wp2_with fail;refine(mX g j _ _ _ _ A (by omega) (by omega) (by omega) (by simp only[List.length_append,List.length_cons,List.length_nil];rw[show Int.toNat 7=7 from rfl];omega)).mono ?_;rintro k w5 ⟨rfl,v,R⟩;have ad:Writer g w5 j (p++[dx]++z):=(by rw[t];simpa only[List.append_assoc,Int.toNat_natCast,show Int.toNat 7=7 from rfl]using v);have yl:=(EV.J.trans F).trans R);all_goals
  have Z:=ak c;clear c t;go_wp2;go_loopw[34] (λQ wr=>∃e:Nat,e<=b.length/\Q=ι κ e/\Writer g wr j (p++[dx]++z++eK dx f least width (b.take e))/\aX g r wr) (λQ _=>b.length - (intOf Q).toNat);case atStart=>exact⟨0,aK _,rfl,by simpa[eK]using ad,yl⟩
  case round=>
   obtain⟨e,w,rfl,u,s⟩:=hrel;by_cases cL:e<b.length
   .have ju:(e:Int)<(b.length:Int):=(by omega);obtain⟨a,I⟩:∃a,b[e]?=σ a:=⟨b[e],af cL⟩;obtain rfl:=G (by omega);obtain⟨c0,c1,c2⟩:=HC.J.kept s (T (by omega)) e a I;have lx:o<wr.heap.size:=bz _ _ c0;have E:=aA I;have Jy:=(HO.J a E).2;have ax:=yQ dx f least width (b.take e) yv (λav hd=>(HO.J av (eG hd)).2);rw[bV]at ax;have HI:=ak I;have V:=ap.J a E;have an:=aq.J a E;obtain⟨l0,D⟩:=nm (p++[dx]++z++eK dx f least width (b.take e));have a1:l0.length<=200000:=(by rw[D];simp only[List.length_append,List.length_cons,List.length_nil];omega);rw[<- D]at u;have ao:=ak D;have m:=u.also (K':=K2 g wr.heap.size (wr.heap.size+1)) (cR wr (ru a.null a.n a.s) ν) (λa3 hj=>hj.elim Or.inl (λd=>Or.inr ⟨d.1,by simpa using d.2⟩));have n:=s.alloc u.old (ru a.null a.n a.s);obtain⟨X,Y,B⟩:(wr.alloc (ru a.null a.n a.s)).cell? (Ad wr.heap.size 0)=σ (.bool a.null)/\(wr.alloc (ru a.null a.n a.s)).cell? (Ad wr.heap.size 1)=σ (ι κ a.n)/\(wr.alloc (ru a.null a.n a.s)).cell? (Ad wr.heap.size 2)=σ (θ a.s):=⟨by rw[cI _ _ _ _ rfl];rfl,by rw[cI _ _ _ _ rfl];rfl,by rw[cI _ _ _ _ rfl];rfl⟩;clear I G E D u s;have A:(dx=false/\a.null=false)\/(dx=true/\a.null=false)\/(dx=true/\a.null=true):=(by cases i:dx;{exact .inl ⟨rfl,an i⟩};cases a.null<;>simp);rcases A with⟨rfl,i⟩|⟨rfl,i⟩|⟨rfl,i⟩;all_goals
     (try have ar:=ak (V i).1);(try have a2:=(V i).2);have HN:=ak i;rw[i]at c0 X Y B m n;clear V an i;go_wp2_with fail
     (try
       (with_reducible refine dQ (N8 _ j _ _ _ m (by omega)) ?_)
       rintro k w1 ⟨rfl,c,l⟩
       replace X:=(l.cell (p:=(Ad wr.heap.size 0)) (Or.inr ⟨ae _,rm _⟩)).trans X
       replace Y:=(l.cell (p:=(Ad wr.heap.size 1)) (Or.inr ⟨ae _,rm _⟩)).trans Y
       replace B:=(l.cell (p:=(Ad wr.heap.size 2)) (Or.inr ⟨ae _,rm _⟩)).trans B
       replace n:=n.trans (l.mono (λ_ d=>Or.inl d))
       replace m:=c;go_wp2_with fail)
     (try
       (try rw[ar.J])
       refine(mX _ j _ _ _ _ m (by omega) (by omega) (by omega) (by simp;omega)).mono ?_;rintro k w2 ⟨rfl,A,F⟩
       replace B:=(F.cell (p:=(Ad wr.heap.size 2)) (Or.inr ⟨ae _,rm _⟩)).trans B
       replace n:=n.trans (F.mono (λ_ d=>Or.inl d))
       replace m:=A
       (try go_wp2_with fail)
       (try
         refine(AY _ j _ a.s _ _ m (by omega) (by omega) (by omega) (by simp[bM];omega)).mono ?_;rintro k w3 ⟨rfl,v,R⟩
         replace n:=n.trans (R.mono (λ_ d=>Or.inl d))
         replace m:=v))
     (try go_wp2);go_roundw;(case rel=>refine⟨e+1,by omega,by go_num,?_,n⟩;rw[gj HI.J,qZ,<- cj,<- ao.J];have v:=m.less (K':=g) (λ_ d=>Or.inl d);(try rw[bN]at v);simpa[mb,HN.J,Z.J]using v);case measure=>simp[intOf];omega
   obtain rfl:e=b.length:=(by omega);go_wp2;go_end0;refine⟨rfl,?_,s⟩;rw[aI (ae _)]at u;rw[HE.J];simpa only[List.append_assoc]using u
end S
namespace S
theorem vh(a:Int)(b:ω):Calls prog 42 #[ι κ a] b λc d=>c=τ (.bool (decide (0<=a/\a<=3)))/\b=d:=by
 go_in;go_wp2;all_goals(go_ret;refine⟨bn Ending.returned (bn Value.bool ?_),rfl⟩)
 all_goals first|(simp_all;done)|(simp_all;omega)
theorem Hj(a:Int)(b:ω):Calls prog 208 #[ι κ a] b λc d=>c=τ (.bool (decide (0<=a/\a<=2)))/\b=d:=by
 go_in;go_wp2;all_goals(go_ret;refine⟨bn Ending.returned (bn Value.bool ?_),rfl⟩)
 all_goals first|(simp_all;done)|(simp_all;omega)
theorem CG(a:Int)(b:ω):Calls prog 183 #[ι κ a] b λc d=>c=τ (.iface (if a=1 then 368 else if a=2 then 369 else if a=3 then 370 else 371) (χ #[]))/\b=d:=by
 go_in;go_wp2;all_goals(go_ret;refine⟨?_,rfl⟩)
 all_goals simp_all
def strOf(bs:List Nat):ByteArray:=⟨(bs.map UInt8.ofNat).toArray⟩
def body(p k:Int)(cs:List Cl):List Bool:=if p=1 then oi k cs else if p=2 then xc k cs else if p=3 then xd k cs else gZ k cs
def ph(p k:Int)(cs:List Cl):List Bool:=bitsOf p.toNat 8++bitsOf k.toNat 8++bitsOf cs.length 8++body p k cs
theorem RH(a:ω):Writer (·<a.heap.size) (a.alloc (ξ #[ψ ν 0 0,ι κ 0] 375)) a.heap.size []:=by refine⟨ψ ν 0 0,[],Lays.nil,?_,?_,?_,?_,gR _ _ _ _,?_,?_,?_,?_⟩;{rw[cI _ _ _ _ rfl];rfl};{rw[cI _ _ _ _ rfl];rfl};{exact iX _ _ _ _ rfl};{exact iX _ _ _ _ rfl};{simp[Value.ownBlock]};{simp};{intro c b;simp[Value.ownBlock]at b};intro e d;simp;omega
theorem fold_push(c:List Nat):∀(a:ByteArray),(c.map (λ(b:Nat)=>(b:Int))).foldl (λd b=>d.push (UInt8.ofNat b.toNat)) a=⟨a.data++(c.map UInt8.ofNat).toArray⟩:=by
 induction c with
 |nil=>intro a;simp
 |cons b d e=>
   intro a;rw[gp,jh,e];congr 1;simp[ByteArray.push]
theorem aeR{d:Nat->Prop}{a:ω}{j b c:Nat}{bs:List Nat}{g:List Bool}(e:Wr d a j (ψ (σ ⟨b,0,ν⟩) bs.length c) bs g):(convert 68 9 (ψ (σ ⟨b,0,ν⟩) bs.length c)).run prog a=.ok (θ (strOf bs)) a:=by rw[run_convert_bytes_string a 68 9 5 _ _ _ underlying68 underlying5 underlying9];have f:(loadCells ⟨b,0,ν⟩ bs.length).run prog a=.ok ((bs.map (λ(i:Nat)=>(i:Int))).map (Value.int .u8)).toArray a:=(by have:=run_loadCells_list (P:=prog) a ⟨b,0,ν⟩ (Dx bs) (e.own.cells rfl);rw[show(Dx bs).length=bs.length by simp[Dx]]at this;rw[this];simp[Dx,Function.comp_def]);rw[run_bytesToString a _ _ _ _ f,fold_push];simp[strOf]
def jx(P:Program)(t:TypeId)(i:Nat):String:=match P.underlying t with|some (.interface ms)=>(ms.toList.map Prod.fst).getD i default|_=>default
theorem Tryz.aeS(a:ω):(method 566 368 (χ #[]) (jx prog 336 1)).run prog a=.ok (327,χ #[]) a:=by kernel_rfl
theorem Tryz.aeT(a:ω):(method 566 369 (χ #[]) (jx prog 336 1)).run prog a=.ok (337,χ #[]) a:=by kernel_rfl
theorem Tryz.aeU(a:ω):(method 566 370 (χ #[]) (jx prog 336 1)).run prog a=.ok (340,χ #[]) a:=by kernel_rfl
theorem Tryz.aeV(a:ω):(method 566 371 (χ #[]) (jx prog 336 1)).run prog a=.ok (345,χ #[]) a:=by kernel_rfl
theorem KG(c b:Int)(a:List Cl)(n:Option Addr)(d l o:Nat)(k:ω)(M:0<a.length->n=σ ⟨d,l,ν⟩)(F:mT k d l a)(W:a.length<=o)(D:a.length<=64)(hn:∀g∈a,cK g.n)
 (hs:∀g∈a,g.s.size<=140737488351232) (Fu:0<=c) (GM:c<=3) (yK:0<=b) (mq:b<=2) (O:a.all (okB b)=true) :
 Calls prog 184 #[ι κ c,ι κ b,ψ n a.length o] k λi w'=>(∃bs,Lays bs (ph c b a)/\i=τ (.tuple #[θ (strOf bs),ι κ 0]))/\δ k.heap.size k w':=by
 have an:(a.length:Int)<=64:=by omega
 have H:=A2 b a n d l o k M F (by omega) hs;rw[O]at H;have al:decide (0<=c/\c<=3)=true:=by simp;omega
 have aa:decide (0<=b/\b<=2)=true:=by simp;omega
 have I:=vh c k;have K:=Hj b k;rw[al]at I;rw[aa]at K;have Z:∀g∈a,yM g:=λg p=>D0 (yN (hn g p) (ez.1 O g p));have A:=ak Z;go_in;go_wp2_with fail;refine I.mono ?_;rintro i r ⟨rfl,rfl⟩;go_wp2_with fail;refine K.mono ?_;rintro i r ⟨rfl,rfl⟩;go_wp2_with fail;refine H.mono ?_;rintro i r ⟨rfl,e⟩;have u:=e;go_wp2_with fail;refine(mX _ _ _ _ _ _ (RH r) (by omega) (by omega) (by omega) (by simp)).mono ?_;rintro i w2 ⟨rfl,e,j⟩;have uz:=e;have Q:=((aX.refl (·<r.heap.size) r).alloc (λ_ p=>p) _).trans j;go_wp2_with fail;refine(mX _ _ _ _ _ _ uz (by omega) (by omega) (by omega) (by simp[bM])).mono ?_;rintro i w3 ⟨rfl,e,j⟩;have P:=e;have R:=Q.trans j;go_wp2_with fail;refine(mX _ _ _ _ _ _ P (by omega) (by omega) (by omega) (by simp[bM])).mono ?_;rintro i s ⟨rfl,e,j⟩;have C:=e;have L:=R.trans j;go_wp2_with fail;refine(CG c s).mono ?_;rintro i w5 ⟨rfl,rfl⟩;have E:mT s d l a:=(by intro am g hi;obtain⟨e,j,h3⟩:=F am g hi;have v:d<k.heap.size:=bz _ _ e;have G:=u.trans (L.below.mono u.size);exact⟨(G.cell (p:=⟨d,_,ν⟩) v).trans e,(G.cell (p:=⟨d,_,ν⟩) v).trans j,(G.cell (p:=⟨d,_,ν⟩) v).trans h3⟩);have X:0<a.length->d<r.heap.size:=(by intro p;have h0:=(F 0 a[0] (af p)).1;have v:d<k.heap.size:=bz _ _ h0;exact ai v u.size);have z:=ak X;have B:=ak M;have ab:([]++bitsOf c.toNat (Int.toNat 8)++bitsOf b.toNat (Int.toNat 8)++bitsOf (a.length:Int).toNat (Int.toNat 8)).length<=1000:=(by simp only[List.length_append,bM,List.length_nil];rw[show Int.toNat 8=8 from rfl];omega);have x:=ak ab;have hm:=Tryz.aeS;have Y:=Tryz.aeT;have ac:=Tryz.aeU;have ad:=Tryz.aeV;simp[jx,underlying336]at hm Y ac ad;have N:ph c b a=[]++bitsOf c.toNat (Int.toNat 8)++bitsOf b.toNat (Int.toNat 8)++bitsOf (a.length:Int).toNat (Int.toNat 8)++body c b a:=(by unfold ph;rw[bN];rfl);have T:=ak N;clear N;rcases(show c=1\/c≠1/\c=2\/c≠1/\c≠2/\c=3\/c≠1/\c≠2/\c≠3 by omega)with f|⟨f,m⟩|⟨f,m,w⟩|⟨f,m,w⟩
 all_goals
  first
   | (rw[aF f];have y:=ak (show body c b a=oi b a from aF f))
   | (rw[aE f,aF m];have y:=ak (show body c b a=xc b a from(aE f).trans (aF m)))
   | (rw[aE f,aE m,aF w];have y:=ak (show body c b a=xd b a from(aE f).trans ((aE m).trans (aF w))))
   | (rw[aE f,aE m,aE w];have y:=ak (show body c b a=gZ b a from(aE f).trans ((aE m).trans (aE w))))
  go_wp2_with fail;first
   |refine(JG _ _ _ b a n d l o s C B.J E z.J A.J D W x.J).mono ?_
   |refine(JJ _ _ _ b a n d l o s C B.J E z.J A.J D x.J).mono ?_
   |refine(JL _ _ _ b a n d l o s C B.J E z.J A.J D x.J).mono ?_
   |refine(G4 _ _ _ b a n d l o s C B.J E z.J A.J D x.J).mono ?_
  rintro i w6 ⟨rfl,e,j⟩;rw[<- y.J,<- T.J]at e;have U:=u.trans ((L.trans j).below.mono u.size);obtain⟨aq,bs,t⟩:=e;have jF:0<bs.length:=by rw[t.lays.len];unfold ph;simp only[List.length_append,bM];omega
  obtain⟨ao,Ao,rfl⟩:=t.slice jF;have ht:=aeR t;have ap:=t.sl;have V:=t.lays;go_wp2;go_ret2;exact⟨⟨bs,V,rfl⟩,U⟩
end S
