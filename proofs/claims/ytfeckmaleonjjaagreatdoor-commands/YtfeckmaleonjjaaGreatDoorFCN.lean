import Derived.Test.YtfeckmaleonjjaaGreatDoorFCH
import Derived.Test.YtfeckmaleonjjaaGreatDoorFCK
set_option maxHeartbeats 0
set_option maxRecDepth 100000
namespace Go.Proofs.YtfeckmaleonjjaaGreatDoor
open Go.RowKit
open _root_.Go.Proofs.Tryz
open Option renaming some→σ,none→ν
open Go.IntKind renaming i64→κ
open Go.Ending renaming returned→τ
open Go.Obj renaming cells→ξ
open Go renaming World→ω,Value→υ
open Go.RowKit renaming Below→δ
open Go.Value renaming int→ι,string→θ,pointer→π,agg→χ
variable{w n:Nat}{p:Γ}{m:ω}{x l:υ}{v:Bool}
theorem vS{lo:Nat}{c:Δ aF->Prop}{g i:Δ aF->fE}(u:fN m lo x c g)(w:fN m lo l c i)(L:∀row,c row->∀d,g row=.inl d->xy d)(M:∀row,c row->∀d,i row=.inl d->xy d)(O:lo<=m.heap.size) :
 Calls prog 298 #[x,l,.bool v] m λP z=>∃y,P=τ y/\fN z lo y c (λrow=>kS v (g row) (i row))/\δ m.heap.size m z:=by
 have B:=ak u;have Q:=ak w;obtain⟨r,p,rfl,-⟩:=u;obtain⟨s,k,rfl,-⟩:=w;have b:=wJ m (ξ #[.func (.func r) #[] p] 172) (ξ #[.func (.func s) #[] k] 172);have D:=(xF v ((m.alloc (ξ #[.func (.func r) #[] p] 172)).alloc (ξ #[.func (.func s) #[] k] 172)));have C:Hid (CU (.inl (iy v))=χ #[.bool false,ι κ (iy v).n,θ ⟨#[]⟩,.bool false]):=ak rfl;have E:=ak (λa (e:δ _ ((m.alloc (ξ #[.func (.func r) #[] p] 172)).alloc (ξ #[.func (.func s) #[] k] 172)) a)=>(show fN (a.alloc (ξ #[.bool false,ι κ (iy v).n,θ ⟨#[]⟩,.bool false] 305)) lo (.func (.func 311) #[] #[π (σ ⟨m.heap.size,0,ν⟩),π (σ ⟨a.heap.size,0,ν⟩),π (σ ⟨m.heap.size+1,0,ν⟩)]) c (λrow=>kS v (g row) (i row))/\δ m.heap.size m (a.alloc (ξ #[.bool false,ι κ (iy v).n,θ ⟨#[]⟩,.bool false] 305))from by
  have o:δ a.heap.size a (a.alloc (ξ #[.bool false,ι κ (iy v).n,θ ⟨#[]⟩,.bool false] 305)):=(aj _ _).alloc (ae _) _;have f:=b.1.trans (e.mono b.1.size);have N:=f.size;have t:=f.trans (o.mono N);have F:=(o.block _ (aw (show m.heap.size<_ by simp;omega) e.size)).trans ((e.block _ (by simp;omega)).trans b.2.2);have G:=(o.block _ (aw (show m.heap.size+1<_ by simp) e.size)).trans ((e.block _ (by simp)).trans b.2.1);exact⟨⟨_,_,rfl,call311,λR j T U X ry n A H I K=>alF B.J Q.J L M (lH.back t j) (j.block O F) (j.block (by omega) (az a _)) (j.block (by omega) G) n A H I K⟩,t⟩))
 clear b;go_in;go_wp21;refine D.mono ?_;rintro V a ⟨rfl,f⟩;have⟨n,b⟩:=E.J a f;rw[C.J];clear f;go_wp2;go_ret;exact⟨_,rfl,n,b⟩
def adk(o:Nat)(c:aF):fE:=if o=14 then .inl (iy (decide (c.n=0)))else Q9 (Ej 0 c.n)
theorem Lk{w:ω}{lo:Nat}(b:Nat)(i:b=13\/b=14):Calls prog 286 #[ι κ b] w λj e=>∃d,j=τ d/\xw e lo d Ru (adk b)/\e=w:=by
 have f:Hid (xw w lo (.func (.func 294) #[] #[]) Ru (λa=>.inl (iy (decide (a.n=0))))):=ak ⟨_,_,rfl,call294,λc _ a _=>ak7 a c⟩;have g:Hid (xw w lo (.func (.func 295) #[] #[]) Ru (λa=>Q9 (Ej 0 a.n))):=ak ⟨_,_,rfl,call295,λc _ a _=>ak8 a c⟩;rcases i with rfl|rfl
 all_goals
  go_in;go_wp2;go_ret;first
   |exact⟨_,rfl,f.J,rfl⟩
   |exact⟨_,rfl,g.J,rfl⟩
def Ll(o:Nat)(l r:aF):fE:=if 5<=o then .inl (iy (CY o (Q5 l r)))else Q9 (xE o l.n r.n)
theorem Lm{w:ω}{lo:Nat}(a:Nat)(n:a<=10)(i:lo<=w.heap.size):Calls prog 300 #[ι κ a] w λb k=>∃j,b=τ j/\yK k lo j Rv (Ll a)/\δ w.heap.size w k:=by have g:δ w.heap.size w (w.alloc (ξ #[ι κ a] 366)):=(aj _ _).alloc (ae _) _;by_cases d:5<=a;{have c:Hid (yK (w.alloc (ξ #[ι κ a] 366)) lo (.func (.func 313) #[] #[π (σ ⟨w.heap.size,0,ν⟩)]) Rv (Ll a)):=ak ⟨_,_,rfl,call313,λl e f b _=>by unfold Ll;rw[aN d];exact alE a d n f b (e.block i (az w _))⟩;have m:(5:Int)<=a:=(by omega);have o:(a:Int)<=10:=(by omega);go_in;go_wp2;go_ret;exact⟨_,rfl,c.J,g⟩};have c:Hid (yK (w.alloc (ξ #[ι κ a] 366)) lo (.func (.func 316) #[] #[π (σ ⟨w.heap.size,0,ν⟩)]) Rv (Ll a)):=ak ⟨_,_,rfl,call316,λl e f b _=>by unfold Ll;rw[aH d];exact agY a (by omega) f b (e.block i (az w _))⟩;have m:¬(5:Int)<=a:=(by omega);go_in;go_wp2;go_ret;exact⟨_,rfl,c.J,g⟩
def jq(cy:Δ bU)(row:Δ aF):Ex->fE
 |.num n=>.inl (ox n)
 |.str s=>.inl ⟨false,0,s⟩
 |.bool b=>.inl (iy b)
 |.junk=>.inl (ox 0)
 |.col s _=>.inl (match wP cy s with
   |some i=>row.getD i fj
   |none=>fj)
 |.lA no _ x=>zq (λc=>.inl (iy (c.bH != no))) (jq cy row x)
 |.not _ x=>zq (unO (adk 14)) (jq cy row x)
 |.neg _ x=>zq (unO (adk 13)) (jq cy row x)
 |.two op _ x y=>if iI op=11 then kS false (jq cy row x) (jq cy row y)else if iI op=12 then kS true (jq cy row x) (jq cy row y)else xD (Ll (iI op)) (jq cy row x) (jq cy row y)
def pK(cy:Δ bU)(row:Δ aF):Prop:=row.length=cy.length/\∀(i:Nat) (c:aF) (k:bU),row[i]?=σ c->cy[i]?=σ k->k.2=2->xy c
theorem yT(a:Bool):xy (iy a):=by cases a;exact .inr (.inl rfl);exact .inr (.inr rfl)
theorem WX{b:Δ bU}{f:bU}(a:b.find? (λd=>ct d.1 p)=σ f):∃c,wP b p=σ c/\b[c]?=σ f:=by induction b with|nil=>simp at a|cons d j i=>rw[zx]at a;cases he:ct d.1 p with|true=>(rw[he]at a;cases a;exact⟨0,by simp[wP,List.findIdx?_cons,he],rfl⟩)|false=>rw[he]at a;have⟨c,e,g⟩:=i a;refine⟨c+1,?_,by simpa using g⟩;unfold wP at e ⊢;rw[qL,he,e];rfl
theorem Vf:∀a∈qD,iI a<=12/\(iI a<=4↔pP a=true)/\(5<=iI a/\iI a<=10↔jm a=true):=by decide
theorem JI{c:Δ bU}{f g:Ex}(a:dp c (.two p w f g)=.inl n):∃b d,dp c f=.inl b/\dp c g=.inl d/\n=(if pP p then 0 else 2)/\b=d/\(b=(if pP p then 0 else 2)\/jm p=true):=by
 simp only[dp]at a;cases hx:dp c f with
 |inr e=>rw[hx]at a;cases a
 |inl b=>
  cases hy:dp c g with
  |inr e=>rw[hx,hy]at a;cases a
  |inl d=>
   rw[hx,hy]at a;simp only at a;generalize (if pP p=true then(0:Nat)else 2)=wt at a ⊢;split at a;{cases a}
   rename_i j;refine⟨b,d,rfl,rfl,(A1 a).symm,Decidable.byContradiction (λe=>j (.inl e)),?_⟩;by_cases i:b=wt;{exact .inl i}
   exact .inr (by
    cases k:jm p with
    |true=>rfl
    |false=>exact absurd (.inr ⟨i,k⟩) j)
theorem AH{b:Δ bU}{c:Ex}:(∀{g:Bool} {e:Nat},dp b (.lA g e c)=.inl w->∃f,dp b c=.inl f)/\(∀{e:Nat},dp b (.not e c)=.inl w->dp b c=.inl 2)/\(∀{e:Nat},dp b (.neg e c)=.inl w->dp b c=.inl 0/\w=0):=by refine⟨λa=>?_,λa=>?_,λa=>?_⟩;{simp only[dp]at a;cases hx:dp b c with|inr d=>rw[hx]at a;cases a|inl f=>exact⟨f,rfl⟩};{simp only[dp]at a;cases hx:dp b c with|inr d=>rw[hx]at a;cases a|inl f=>rw[hx]at a;simp only at a;split at a;{rename_i d;rw[d]};cases a};simp only[dp]at a;cases hx:dp b c with|inr d=>rw[hx]at a;cases a|inl f=>rw[hx]at a;simp only at a;split at a;{rename_i d;exact⟨by rw[d],(A1 a).symm⟩};cases a
theorem Gf{c d:fE}{b:aF}(a:kS v c d=.inl b)(e:∀b,c=.inl b->xy b)(g:∀b,d=.inl b->xy b):xy b:=by unfold kS at a;cases c with|inr f=>cases a|inl i=>simp only at a;split at a;{exact e _ a};cases d with|inr f=>cases a|inl j=>simp only at a;repeat(first|(split at a)|(cases a;first|exact e _ rfl|exact g _ rfl))
theorem xL{g:Δ bU}{row:Δ aF}(C:pK g row)(b:Ex)(j:tS b)(d:dp g b=.inl 2){c:aF}(a:jq g row b=.inl c):xy c:=by
 induction b generalizing c with
 |num L=>cases d
 |str L=>cases d
 |junk=>cases d
 |bool E=>cases a;exact yT E
 |col M m=>simp only[dp]at d;cases hf:g.find? (λc=>ct c.1 M)with|none=>rw[hf]at d;cases d|some K=>rw[hf]at d;have⟨o,F,l⟩:=WX hf;simp only[jq,F]at a;have v:o<row.length:=(by rw[C.1];exact(ah.mp l).1);have H:row[o]?=σ c:=(by rw[af v];rw[<- A1 a];simp[List.getD,List.getElem?_eq_getElem v]);exact C.2 o c K H l (A1 d)
 |lA P m k p=>simp only[jq]at a;cases f:jq g row k with|inr b=>rw[f]at a;cases a|inl D=>rw[f]at a;cases a;exact yT _
 |not m k p=>simp only[jq]at a;cases f:jq g row k with|inr b=>rw[f]at a;cases a|inl D=>rw[f]at a;simp only[zq,unO,adk]at a;split at a;{cases a;exact p j (AH.2.1 d) f};simp only[if_true]at a;cases a;exact yT _
 |neg m k p=>exact absurd (AH.2.2 d).2 (by decide)
 |two e m k N t u=>
  have⟨B,O,f,A,l,z,s⟩:=JI d;have n:=Vf e j.1;have I:pP e=false:=(by cases ha:pP e with|false=>rfl|true=>rw[ha]at l;cases l);rw[I]at n s;simp only[jq]at a;by_cases w:iI e=11
  .rw[aN w]at a;have i:jm e=false:=by cases i:jm e with
    |false=>rfl
    |true=>have:=n.2.2.mpr i;omega
   have r:B=2:=by rcases s with b|b;exact b;rw[i]at b;cases b
   subst z r;exact Gf a (λc=>t j.2.1 f) (λc=>u j.2.2 A)
  rw[aH w]at a;by_cases x:iI e=12
  .rw[aN x]at a;have i:jm e=false:=by cases i:jm e with
    |false=>rfl
    |true=>have:=n.2.2.mpr i;omega
   have r:B=2:=by rcases s with b|b;exact b;rw[i]at b;cases b
   subst z r;exact Gf a (λc=>t j.2.1 f) (λc=>u j.2.2 A)
  rw[aH x]at a;have G:5<=iI e:=(by rcases lO (iI e) 5 with y|y;{have:=n.2.1.mp (by omega);cases this};exact y);cases hx':jq g row k with|inr b=>rw[hx']at a;cases a|inl Q=>cases hy':jq g row N with|inr b=>rw[hx',hy']at a;cases a|inl D=>rw[hx',hy']at a;simp only[xD]at a;split at a;{cases a;exact .inl rfl};unfold Ll at a;rw[aN G]at a;cases a;exact yT _
def wK(cy:Δ bU)(e:Ex):Prop:=∀w lo cv,eK w cv cy->lo<=w.heap.size->
 Calls prog 278 #[se e,cv] w λr w'=>∃v,r=τ v/\fN w' lo v (pK cy) (λrow=>jq cy row e)/\δ w.heap.size w w'
theorem C6(a:υ)(b:ω):(Instr.typeAssert (.iface 400 a) 228 400 true).run prog b=.ok (.tuple #[a,.bool true]) b:=by kernel_rfl
theorem GN(b:υ)(a:ω):(Instr.typeAssert (.iface 117 b) 228 400 true).run prog a=.ok (.tuple #[χ #[ι κ 0,.bool false,ι κ 0,θ ⟨#[]⟩],.bool false]) a:=by kernel_rfl
theorem Oj(a:υ)(b:ω):(Instr.typeAssert (.iface 117 a) 228 117 true).run prog b=.ok (.tuple #[a,.bool true]) b:=by kernel_rfl
theorem BH(b:υ)(a:ω):(Instr.typeAssert (.iface 389 b) 228 400 true).run prog a=.ok (.tuple #[χ #[ι κ 0,.bool false,ι κ 0,θ ⟨#[]⟩],.bool false]) a:=by kernel_rfl
theorem Fz(b:υ)(a:ω):(Instr.typeAssert (.iface 389 b) 228 117 true).run prog a=.ok (.tuple #[χ #[θ ⟨#[]⟩,ι κ 0],.bool false]) a:=by kernel_rfl
theorem AJ(a:υ)(b:ω):(Instr.typeAssert (.iface 389 a) 228 389 true).run prog b=.ok (.tuple #[a,.bool true]) b:=by kernel_rfl
theorem Ey(b:υ)(a:ω):(Instr.typeAssert (.iface 387 b) 228 400 true).run prog a=.ok (.tuple #[χ #[ι κ 0,.bool false,ι κ 0,θ ⟨#[]⟩],.bool false]) a:=by kernel_rfl
theorem JJ(b:υ)(a:ω):(Instr.typeAssert (.iface 387 b) 228 117 true).run prog a=.ok (.tuple #[χ #[θ ⟨#[]⟩,ι κ 0],.bool false]) a:=by kernel_rfl
theorem C8(b:υ)(a:ω):(Instr.typeAssert (.iface 387 b) 228 389 true).run prog a=.ok (.tuple #[χ #[.nilIface,.bool false],.bool false]) a:=by kernel_rfl
theorem FA(a:υ)(b:ω):(Instr.typeAssert (.iface 387 a) 228 387 true).run prog b=.ok (.tuple #[a,.bool true]) b:=by kernel_rfl
theorem Ez(b:υ)(a:ω):(Instr.typeAssert (.iface 369 b) 228 400 true).run prog a=.ok (.tuple #[χ #[ι κ 0,.bool false,ι κ 0,θ ⟨#[]⟩],.bool false]) a:=by kernel_rfl
theorem JK(b:υ)(a:ω):(Instr.typeAssert (.iface 369 b) 228 117 true).run prog a=.ok (.tuple #[χ #[θ ⟨#[]⟩,ι κ 0],.bool false]) a:=by kernel_rfl
theorem C9(b:υ)(a:ω):(Instr.typeAssert (.iface 369 b) 228 389 true).run prog a=.ok (.tuple #[χ #[.nilIface,.bool false],.bool false]) a:=by kernel_rfl
theorem FB(b:υ)(a:ω):(Instr.typeAssert (.iface 369 b) 228 387 true).run prog a=.ok (.tuple #[χ #[ι κ 0,ι κ 0,.nilIface],.bool false]) a:=by kernel_rfl
theorem FC(a:υ)(b:ω):(Instr.typeAssert (.iface 369 a) 228 369 true).run prog b=.ok (.tuple #[a,.bool true]) b:=by kernel_rfl
theorem EA{g:Δ bU}{lo:Nat}(c:Nat)(a:Int)(b:Γ)(j:lo<=m.heap.size) :
 Calls prog 278 #[Vb c a b,x] m λd l=>∃k,d=τ k/\fN l lo k (pK g) (λ_=>.inl ⟨false,a,b⟩)/\δ m.heap.size m l:=by have e:δ m.heap.size m (m.alloc (ξ #[ι κ c,.bool false,ι κ a,θ b] 400)):=(aj _ _).alloc (ae _) _;have n:=(Av (w:=m.alloc (ξ #[ι κ c,.bool false,ι κ a,θ b] 400)) (lo:=lo) (fv:=.func (.func 281) #[] #[π (σ ⟨m.heap.size,0,ν⟩)]) (ok:=pK g) (G:=λ_=>⟨false,a,b⟩) ⟨_,_,rfl,call281,λt r p u d _ _ _=>akQ p d c ⟨false,a,b⟩ (r.block j (az m _))⟩ (ay j e.size));unfold Vb;have v:=C6;go_in;go_wp21;refine n.mono ?_;rintro d w ⟨y,rfl,i,f⟩;have o:=ak i;have s:=(e.trans (f.mono e.size));clear i f;go_wp2;go_ret;exact⟨_,rfl,o.J,s⟩
theorem adl{a:Δ bU}{c:Γ}{i b:Nat}(F:a.length<=100000)(d:wP a c=σ b):wK a (.col c i):=by
 intro e lo z l t;have y:b<a.length:=by unfold wP at d;rw[aR]at d;exact d.1
 have o:mI a c=(b:Int):=by unfold mI;rw[d]
 have k:δ e.heap.size e (e.alloc (ξ #[θ c,ι κ i] 117)):=(aj _ _).alloc (ae _) _;have n:=ak (Hf a z c _ (l.aU k (ae _)) F);rw[o]at n;have m:=(λ(f:ω) (p:δ e.heap.size e f)=>Av (w:=f.alloc (ξ #[ι κ b] 3)) (lo:=lo) (fv:=.func (.func 282) #[] #[π (σ ⟨f.heap.size,0,ν⟩)]) (ok:=pK a) (G:=λrow=>row.getD b fj) ⟨_,_,rfl,call282,λH E I K u B C D=>akR (E.block (ay t p.size) (az f _)) B (by have:=D.1;simp[cj]at this;omega) C⟩ (ay t (ay p.size (by simp))));have v:Hid ((λrow=>jq a row (.col c i))=λrow=>Sum.inl (row.getD b fj)):=ak (by funext row;simp only[jq,d]);have⟨O,L,G⟩:=l.slice;subst G;clear l y o d;have M:=GN;have N:=Oj;show Calls prog _ #[.iface 117 (χ #[θ c,ι κ i]),_] e _;go_in;go_wp21;refine n.J.mono ?_;rintro u f ⟨rfl,g⟩;have j:=k.trans (g.mono k.size);have w:=(m f j);have s:=(j.alloc j.size (ξ #[ι κ b] 3));clear g j m;go_wp21;refine w.mono ?_;rintro u P ⟨Q,rfl,r,g⟩;have x:=ak r;have A:=(s.trans (g.mono s.size));clear r g;go_wp2;go_ret;exact⟨_,rfl,by rw[v.J];exact x.J,A⟩
theorem adn{p:Δ bU}{b:Ex}(C:wK p b):wK p (.lA v w b):=by intro a lo x k l;have⟨M,Q,m⟩:=uJ b;have e:δ a.heap.size a (a.alloc (ξ #[se b,.bool v] 389)):=(aj _ _).alloc (ae _) _;have g:=ak (C _ lo x (k.aU e (ae _)) (ay l e.size));have i:=ak (λ(f:ω) (z:δ (a.alloc (ξ #[se b,.bool v] 389)).heap.size (a.alloc (ξ #[se b,.bool v] 389)) f)=>(show xw f lo (.func (.func 284) #[] #[π (σ ⟨a.heap.size,0,ν⟩)]) Ru (λj=>.inl (iy (j.bH != v)))from⟨_,_,rfl,call284,λF A j _=>ak9 j v _ (A.block l ((z.block _ (by simp)).trans (az a _)))⟩));have c:=ak e;have⟨P,G,B⟩:=k.slice;subst B;have I:=BH;have K:=Fz;have L:=AJ;show Calls prog _ #[.iface 389 (χ #[se b,.bool v]),_] a _;rw[m]at g i c ⊢;clear e k m;go_in;go_wp21;refine g.J.mono ?_;rintro D f ⟨N,rfl,s,d⟩;have t:=(Ew s (i.J f d) (ay l (ay c.J.size d.size)));have r:=(c.J.trans (d.mono c.J.size));obtain⟨H,E,rfl,-⟩:=s;clear d g i;go_wp21;refine t.mono ?_;rintro D R ⟨O,rfl,n,o⟩;have u:=ak n;have y:=(r.trans (o.mono r.size));clear n o;go_wp2;go_ret;exact⟨_,rfl,u.J,y⟩
theorem Rw{g:Δ bU}{b k:Nat}{c:Ex}(B:b=13\/b=14)(Q:wK g c){a:ω}{lo:Nat}{m:υ}(o:eK a m g)(s:lo<=a.heap.size):Calls prog 278 #[.iface 387 (χ #[ι κ b,ι κ k,se c]),m] a λe G=>∃F,e=τ F/\fN G lo F (pK g) (λrow=>zq (unO (adk b)) (jq g row c))/\δ a.heap.size a G:=by
 have⟨te,ve,w⟩:=uJ c;obtain⟨W,j⟩:∃W,W=a.alloc (ξ #[ι κ b,ι κ k,se c] 387):=⟨_,rfl⟩;have d:δ a.heap.size a W:=by rw[j];exact(aj _ _).alloc (ae _) _
 have i:W.heap[a.heap.size]?=σ (ξ #[ι κ b,ι κ k,se c] 387 (0,0)):=by rw[j];exact az a _
 have A:=aP (aj W.heap.size W);have u:=ak (Q W.drew lo m (o.aU (d.trans (A.mono d.size)) (ae _)) (ay s d.size));have⟨n0,n1,R⟩:=oh i;have I:=ak (λf (O:δ W.heap.size W f)=>(oh ((O.block _ (aA i)).trans i)).1);have K:=(λf=>Lk (w:=f) (lo:=lo) b B);have v:=ak j;have p:=d.size;have⟨va,Y,P⟩:=o.slice;subst P;have aa:=Ey;have ab:=JJ;have ac:=C8;have ad:=FA;rw[w]at u v R ⊢;clear o w i j B;go_in;go_wp2;rw[<- v.J];go_region_with(first
  | (go_at_call 278;refine u.J.mono ?_;rintro e f ⟨v1,rfl,E,z⟩;have l:=A.trans z;have Z:=I.J f l;have r:=ak l;have M:=ak E;obtain⟨k1,U,rfl,-⟩:=E;clear z l)
  | (go_at_call 286;refine(K _).mono ?_;rintro e w2 ⟨v2,rfl,x,rfl⟩;have T:=ak x;obtain⟨k2,kP,rfl,-⟩:=x)
  | (go_at_call 285;refine(JH T.J (ay s (ay p r.J.size))).mono ?_;rintro e w3 ⟨v3,rfl,y,n⟩;have t:=ak (r.J.trans (n.mono r.J.size));have H:=ak (Ew (M.J.keep n) y (ay s (ay p t.J.size)));obtain⟨k3,V,rfl,-⟩:=y;clear n)
  | (go_at_call 283;refine H.J.mono ?_;rintro e w4 ⟨v4,rfl,C,D⟩;have L:=ak C;have N:=ak (d.trans ((t.J.trans (D.mono t.J.size)).mono p));obtain⟨k4,X,rfl,-⟩:=C;clear D))
 all_goals (try go_wp2);go_ret;exact⟨_,rfl,L.J,N.J⟩
theorem Gg{a b:υ}{d:TypeId}(c:m.heap[w]?=σ (ξ #[x,l,a,b] d (0,0))):m.cell? ⟨w,0,ν⟩=σ x/\m.cell? ⟨w,1,ν⟩=σ l/\m.cell? ⟨w,2,ν⟩=σ a/\m.cell? ⟨w,3,ν⟩=σ b:=by simp[World.cell?,c]
def JL(cy:Δ bU)(o:Nat)(x y:Ex)(row:Δ aF):fE:=if o=11 then kS false (jq cy row x) (jq cy row y)else if o=12 then kS true (jq cy row x) (jq cy row y)else xD (Ll o) (jq cy row x) (jq cy row y)
def ado(cy:Δ bU)(lo o:Nat)(x y:Ex):Prop:=∀w v1 v2,lo<=w.heap.size->fN w lo v1 (pK cy) (λrow=>jq cy row x)->fN w lo v2 (pK cy) (λrow=>jq cy row y)->
 (o=11->Calls prog 298 #[v1,v2,.bool false] w λr w'=>∃v,r=τ v/\fN w' lo v (pK cy) (JL cy o x y)/\δ w.heap.size w w')/\
 (o=12->Calls prog 298 #[v1,v2,.bool true] w λr w'=>∃v,r=τ v/\fN w' lo v (pK cy) (JL cy o x y)/\δ w.heap.size w w')/\
 (o<=10->∀w1 v3,δ w.heap.size w w1->yK w1 lo v3 Rv (Ll o)->Calls prog 299 #[v1,v2,v3] w1 λr w'=>∃v,r=τ v/\fN w' lo v (pK cy) (JL cy o x y)/\δ w1.heap.size w1 w')
theorem agZ{a:Δ bU}{d e:Ex}(lo:Nat)(i:tS (.two p w d e))(z:dp a (.two p w d e)=.inl n):ado a lo (iI p) d e:=by
 have⟨A,C,t,v,j,u,B⟩:=JI z;have x:=Vf p i.1;have two:iI p=11\/iI p=12->A=2:=by
  intro f;have m:pP p=false:=by cases m:pP p with
   |false=>rfl
   |true=>have:=x.2.1.mpr m;omega
  have c:jm p=false:=by cases c:jm p with
   |false=>rfl
   |true=>have:=x.2.2.mpr c;omega
  rcases B with b|b;{rw[m]at b;exact b};rw[c]at b;cases b
 intro G D E s l j;refine⟨λf=>?_,λf=>?_,λf H F o y=>?_⟩;{have r:=two (.inl f);subst u r;have b:JL a (iI p) d e=λrow=>kS false (jq a row d) (jq a row e):=(by funext row;unfold JL;rw[aN f]);rw[b];exact vS l j (λrow g k c=>xL g d i.2.1 t c) (λrow g k c=>xL g e i.2.2 v c) s};{have r:=two (.inr f);subst u r;have b:JL a (iI p) d e=λrow=>kS true (jq a row d) (jq a row e):=(by funext row;unfold JL;rw[aH (by omega),aN f]);rw[b];exact vS l j (λrow g k c=>xL g d i.2.1 t c) (λrow g k c=>xL g e i.2.2 v c) s};have b:JL a (iI p) d e=λrow=>xD (Ll (iI p)) (jq a row d) (jq a row e):=(by funext row;unfold JL;rw[aH (by omega),aH (by omega)]);rw[b];exact Oi (l.keep o) (j.keep o) y (ay s o.size)
theorem Rx{o:Δ bU}{d a:Nat}{k l:Ex}(ho:d<=12)(SE:wK o k)(SF:wK o l){e:ω}{lo:Nat}(hL:ado o lo d k l){y:υ}(B:eK e y o)(C:lo<=e.heap.size):Calls prog 287 #[χ #[ι κ d,ι κ a,se k,se l],y] e λj Y=>∃X,j=τ X/\fN Y lo X (pK o) (JL o d k l)/\δ e.heap.size e Y:=by
 have⟨te,ve,O⟩:=uJ k;have⟨al,am,Q⟩:=uJ l;obtain⟨W,A⟩:∃W,W=e.alloc (ξ #[ι κ d,ι κ a,se k,se l] 369):=⟨_,rfl⟩;have i:δ e.heap.size e W:=by rw[A];exact(aj _ _).alloc (ae _) _
 have z:W.heap[e.heap.size]?=σ (ξ #[ι κ d,ι κ a,se k,se l] 369 (0,0)):=by rw[A];exact az e _
 have U:=aP (aj W.heap.size W);have t:=ak (SE W.drew lo y (B.aU (i.trans (U.mono i.size)) (ae _)) (ay C i.size));have u:=ak (λf (b:δ W.heap.size W f)=>SF f lo y (B.aU (i.trans (b.mono i.size)) (ae _)) (ay C (ay i.size b.size)));have⟨n0,n1,n2,n3⟩:=Gg z;have x:=ak (λf (b:δ W.heap.size W f)=>Gg ((b.block _ (aA z)).trans z));have w:=(λf (ab:d<=10) (b:lo<=f.heap.size)=>Lm (w:=f) (lo:=lo) d ab b);have D:=ak A;have H:=i.size;have⟨va,eH,hv⟩:=B.slice;subst hv;rw[O]at t D n2 x ⊢;rw[Q]at u D n3 x ⊢;clear B O Q z A;go_in;go_wp2;rw[<- D.J];have T:d=11\/d=12\/d<=10:=by omega
 have v:=ak T;clear T ho;go_region_with(first
  | (go_at_call 278;(with_reducible refine dM t.J ?_);rintro j f ⟨v1,rfl,V,R⟩;have F:=U.trans R;obtain⟨m0,m1,m2,m3⟩:=x.J f F;have I:=ak F;have Ko:=ak V;obtain⟨k1,Ay,rfl,-⟩:=V;clear R F)
  | (go_at_call 278;(with_reducible refine dM (u.J f I.J) ?_);rintro j L ⟨v2,rfl,P,c⟩;have p:=I.J.trans (c.mono I.J.size);obtain⟨j0,j1,j2,j3⟩:=x.J L p;have G:=ak p;have Z:=ak (Ko.J.keep c);have yn:=ak P;obtain⟨k2,kP,rfl,-⟩:=P;clear c p))
 all_goals
  have s:=ak (hL L _ _ (ay C (ay H G.J.size)) Z.J yn.J);have n:=(i.trans (G.J.mono H));rcases v.J with b|b|b
  {have m:=ak (s.J.1 b);clear s w t u v;subst b;go_wp21;refine m.J.mono ?_;rintro j M ⟨K,rfl,g,c⟩;have E:=ak g;have r:=ak (n.trans (c.mono n.size));clear g c;go_wp2;go_ret;exact⟨_,rfl,E.J,r.J⟩};{have m:=ak (s.J.2.1 b);clear s w t u v;subst b;go_wp21;refine m.J.mono ?_;rintro j M ⟨K,rfl,g,c⟩;have E:=ak g;have r:=ak (n.trans (c.mono n.size));clear g c;go_wp2;go_ret;exact⟨_,rfl,E.J,r.J⟩};have m:=ak (s.J.2.2 b);have N:=(w L b (ay C (ay H G.J.size)));have ag:((d:Int)==11)=false:=(by rw[aY];omega);have ai:((d:Int)==12)=false:=(by rw[aY];omega);clear s w t u v b;go_wp21;refine N.mono ?_;rintro j M ⟨K,rfl,g,c⟩;have aa:=(m.J M K c g);have r:=ak (n.trans (c.mono n.size));obtain⟨k3,ad,rfl,-⟩:=g;clear c m N;go_wp21;refine aa.mono ?_;rintro j w4 ⟨v4,rfl,ac,p⟩;have PL:=(r.J.trans (p.mono r.J.size));clear p;go_wp2;go_ret;exact⟨_,rfl,ac,PL⟩
theorem adq{c:Δ bU}{a b:Ex}(i:tS (.two p w a b))(u:dp c (.two p w a b)=.inl n)(s:wK c a)(t:wK c b):wK c (.two p w a b):=by intro e lo A g y;have⟨I,N,k⟩:=uJ a;have⟨K,O,l⟩:=uJ b;have d:δ e.heap.size e (e.alloc (ξ #[ι κ (iI p),ι κ w,se a,se b] 369)):=(aj _ _).alloc (ae _) _;have j:=ak (Rx (a:=w) (Vf p i.1).1 s t (agZ lo i u) (g.aU d (ae _)) (ay y d.size));have f:=ak d;have r:Hid ((λrow=>jq c row (.two p w a b))=JL c (iI p) a b):=ak rfl;have⟨M,B,v⟩:=g.slice;subst v;have D:=Ez;have E:=JK;have F:=C9;have G:=FB;have H:=FC;show Calls prog _ #[.iface 369 (χ #[ι κ (iI p),ι κ w,se a,se b]),_] e _;rw[r.J];rw[k,l]at j f ⊢;generalize iI p=o at *;clear d g k l;go_in;go_wp21;refine j.J.mono ?_;rintro C P ⟨L,rfl,z,m⟩;have x:=(f.J.trans (m.mono f.J.size));clear m;go_wp2;go_ret;exact⟨_,rfl,z,x⟩
theorem Ry{l:Δ bU}(v:l.length<=100000):∀(g:Ex),tS g->∀c,dp l g=.inl c->wK l g:=by intro g;induction g with|num B=>exactλ_ c a j lo f e b=>EA 0 B ⟨#[]⟩ b|str m=>exactλ_ c a j lo f e b=>EA 1 0 m b|bool r=>(exactλ_ c a j lo f e b=>EA 2 (if r then 1 else 0) ⟨#[]⟩ b)|junk=>exactλ_ c a j lo f e b=>EA 0 0 ⟨#[]⟩ b|col m k=>(intro _ c a;simp only[dp]at a;cases hf:l.find? (λs=>ct s.1 m)with|none=>rw[hf]at a;cases a|some q=>obtain⟨C,t,-⟩:=WX hf;exact adl v t)|neg k n i=>exactλd c a j lo f e b=>Rw (.inl rfl) (i d 0 (AH.2.2 a).1) e b|not k n i=>exactλd c a j lo f e b=>Rw (.inr rfl) (i d 2 (AH.2.1 a)) e b|lA D k n i=>(intro d c a;have⟨y,u⟩:=AH.1 a;exact adn (i d y u))|two E k n F o p=>intro d c a;obtain⟨z,A,w,x,-⟩:=JI a;exact adq d a (o d.2.1 z w) (p d.2.2 A x)
