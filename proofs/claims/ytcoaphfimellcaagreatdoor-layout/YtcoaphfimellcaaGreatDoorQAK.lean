import Derived.Test.YtcoaphfimellcaaGreatDoorQAJ
import Derived.Test.YtcoaphfimellcaaGreatDoorQAH
set_option maxHeartbeats 0
set_option maxRecDepth 100000
namespace Go.Proofs.YtcoaphfimellcaaGreatDoor
open Go.RowKit
open _root_.Go.Proofs.Tryz
open Option renaming some→σ,none→ν
open Go.IntKind renaming i64→κ
open Go.Ending renaming returned→τ
open Go.Obj renaming cells→ξ
open Go renaming World→ω,Value→υ
open Go.RowKit renaming Below→δ
open Go.Value renaming int→ι,string→θ,pointer→π,agg→χ
variable{w n:Nat}{p:ByteArray}{m:ω}{x:υ}{v:Bool}
theorem uI{s:υ}{ok:List aD->Prop}{f g:List aD->dj}(z:dJ m w x ok f)(r:dJ m w s ok g)(t:∀row,ok row->∀c,f row=.inl c->rN c)(u:∀row,ok row->∀c,g row=.inl c->rN c)(T:w<=m.heap.size) :
 Calls prog 205 #[x,s,.bool v] m λU B=>∃A,U=τ A/\dJ B w A ok (λrow=>iO v (f row) (g row))/\δ m.heap.size m B:=by
 have F:=ak z;have V:=ak r;have H:=ak t;have I:=ak u;obtain⟨n,k,rfl,-⟩:=z;obtain⟨o,p,rfl,-⟩:=r;have b:=fX m (ξ #[.func (.func n) #[] k] 141) (ξ #[.func (.func o) #[] p] 141);have K:=ak (td v ((m.alloc (ξ #[.func (.func n) #[] k] 141)).alloc (ξ #[.func (.func o) #[] p] 141)));have G:Hid (yF (.inl (jL v))=χ #[.bool false,ι κ (jL v).n,θ ⟨#[]⟩,ι κ 0,ι κ 0]):=ak rfl;have L:=ak (λa (d:δ _ ((m.alloc (ξ #[.func (.func n) #[] k] 141)).alloc (ξ #[.func (.func o) #[] p] 141)) a)=>(show dJ (a.alloc (obP false (jL v).n ⟨#[]⟩ 0 0)) w (.func (.func 224) #[] #[π (σ ⟨m.heap.size,0,ν⟩),π (σ ⟨a.heap.size,0,ν⟩),π (σ ⟨m.heap.size+1,0,ν⟩)]) ok (λrow=>iO v (f row) (g row))/\δ m.heap.size m (a.alloc (obP false (jL v).n ⟨#[]⟩ 0 0))from by
  have l:δ a.heap.size a (a.alloc (obP false (jL v).n ⟨#[]⟩ 0 0)):=(ah _ _).alloc (ae _) _;have e:=b.1.trans (d.mono b.1.size);have R:=e.size;have y:=e.trans (l.mono R);have M:=(l.block _ (ai (show m.heap.size<_ by simp;omega) d.size)).trans ((d.block _ (by simp;omega)).trans b.2.2);have N:=(l.block _ (ai (show m.heap.size+1<_ by simp) d.size)).trans ((d.block _ (by simp)).trans b.2.1);exact⟨⟨_,_,rfl,call224,λW j X Y rv aa i C O P Q=>ajL F.J V.J H.J I.J (ft.back y j) (j.block T M) (j.block (by omega) (au a _)) (j.block (by omega) N) i C O P Q⟩,y⟩))
 clear b t u;go_in;go_wp2_with fail;refine K.J.mono ?_;rintro Z a ⟨rfl,e⟩;obtain⟨i,b⟩:=L.J a e;have D:=ak i;have E:=ak b;rw[G.J];clear e i b;go_wp2_with fail;go_ret;exact⟨_,rfl,D.J,E.J⟩
theorem Xe(a:ω)(c:υ)(b:TypeId):(a.alloc (ξ #[c] b)).heap[a.heap.size]?=σ (ξ #[c] b (0,0))/\δ a.heap.size a (a.alloc (ξ #[c] b)):=
 ⟨au a _,(ah _ _).alloc (ae _) _⟩
def OU(o pl:Nat)(c:aD):dj:=if o=14 then .inl (jL (decide (c.n=0)))else Ec pl (A9 0 c.n)
theorem JZ{w:ω}{lo:Nat}(g e:Nat)(u:g=13\/g=14)(k:lo<=w.heap.size):Calls prog 179 #[ι κ g,ι κ e] w λl m=>∃a,l=τ a/\vG m lo a OQ (OU g e)/\δ w.heap.size w m:=by
 have n:Hid (vG w lo (.func (.func 201) #[] #[]) OQ (λc=>.inl (jL (decide (c.n=0))))):=ak ⟨_,_,rfl,call201,λi _ c _=>ajC c i⟩;have r:=ak (CO (w:=w) e k);have o:Hid (∀b a,δ w.heap.size w b->KR b lo a e->vG (b.alloc (ξ #[a] 360)) lo (.func (.func 203) #[] #[π (σ ⟨b.heap.size,0,ν⟩)]) OQ (λc=>Ec e (A9 0 c.n))):=ak λb a d f=>⟨_,_,rfl,call203,λi j c _=>ajD f (ft.back (Xe b a _).2 j) (j.block (ag k d.size) (Xe b a _).1) c⟩;rcases u with rfl|rfl
 {go_in;go_wp2_with fail;refine r.J.mono ?_;rintro l b ⟨a,rfl,f,d⟩;have s:=ak (o.J b a d f);have p:=ak (d.trans ((Xe b a 360).2.mono d.size));obtain⟨v,t,rfl,-⟩:=f;have x:=iP v t;clear d;go_wp2_with fail;go_ret;exact⟨_,rfl,s.J,p.J⟩};go_in;go_wp2_with fail;go_ret;exact⟨_,rfl,n.J,ah _ _⟩
def FP(o pl:Nat)(l r:aD):dj:=if 5<=o then .inl (jL (BK o (NQ l r)))else Ec pl (tO o l.n r.n)
theorem J0{w:ω}{lo:Nat}(a e:Nat)(B:a<=10)(k:lo<=w.heap.size):Calls prog 207 #[ι κ a,ι κ e] w λf t=>∃b,f=τ b/\wV t lo b OT (FP a e)/\δ w.heap.size w t:=by
 have g:δ w.heap.size w (w.alloc (ξ #[ι κ a] 323)):=(ah _ _).alloc (ae _) _;have m:=ak g;by_cases n:5<=a;{have l:Hid (wV (w.alloc (ξ #[ι κ a] 323)) lo (.func (.func 226) #[] #[π (σ ⟨w.heap.size,0,ν⟩)]) OT (FP a e)):=ak ⟨_,_,rfl,call226,λx i o f _=>by unfold FP;rw[aF n];exact ajK a n B o f (i.block k (au w _))⟩;have z:(5:Int)<=a:=(by omega);have D:(a:Int)<=10:=(by omega);clear g;go_in;go_wp2_with fail;go_ret;exact⟨_,rfl,l.J,m.J⟩}
 have u:=ak (CO (lo:=lo) e (ag k g.size))
 have l:Hid (∀c b,δ (w.alloc (ξ #[ι κ a] 323)).heap.size (w.alloc (ξ #[ι κ a] 323)) c->KR c lo b e->wV (c.alloc (ξ #[b] 360)) lo (.func (.func 229) #[] #[π (σ ⟨c.heap.size,0,ν⟩),π (σ ⟨w.heap.size,0,ν⟩)]) OT (FP a e)):=ak λc b d j=>⟨_,_,rfl,call229,λx i o f _=>by
  have s:=(Xe c b 360).2;unfold FP;rw[aE n];have p:=au w (ξ #[ι κ a] 323);have r:=(d.block _ (aw p)).trans p;exact afn j (ft.back s i) (i.block (ag k (ag g.size d.size)) (Xe c b _).1) a (by omega) o f (i.block k ((s.block _ (aw r)).trans r))⟩
 have z:¬(5:Int)<=a:=by omega
 clear g;go_in;go_wp2_with fail;refine u.J.mono ?_;rintro f c ⟨b,rfl,j,d⟩;have v:=ak (l.J c b d j);have A:=ak (m.J.trans ((d.trans ((Xe c b 360).2.mono d.size)).mono m.J.size));obtain⟨C,y,rfl,-⟩:=j;have E:=iP C y;clear d;go_wp2_with fail;go_ret;exact⟨_,rfl,v.J,A.J⟩
def cU(cols:List br)(row:List aD):Ex->dj
 |.num n=>.inl (po n)
 |.str s=>.inl ⟨false,0,s⟩
 |.bool b=>.inl (jL b)
 |.junk=>.inl (po 0)
 |.col s _=>.inl (match Lx cols s with
   |some i=>row.getD i fD
   |none=>fD)
 |.kG no _ x=>sD (λc=>.inl (jL (c.null != no))) (cU cols row x)
 |.not a x=>sD (unO (OU 14 a)) (cU cols row x)
 |.neg a x=>sD (unO (OU 13 a)) (cU cols row x)
 |.two op a x y=>if fW op=11 then iO false (cU cols row x) (cU cols row y)else if fW op=12 then iO true (cU cols row x) (cU cols row y)else vI (FP (fW op) a) (cU cols row x) (cU cols row y)
def gI(cols:List br)(row:List aD):Prop:=row.length=cols.length/\∀(i:Nat) (c:aD) (k:br),row[i]?=σ c->cols[i]?=σ k->k.2=2->rN c
theorem xt(a:Bool):rN (jL a):=by cases a;exact .inr (.inl rfl);exact .inr (.inr rfl)
theorem Mz{cols:List br}{e:br}(a:cols.find? (λc=>iZ c.1 p)=σ e):∃b,Lx cols p=σ b/\cols[b]?=σ e:=by
 induction cols with
 |nil=>simp at a
 |cons c i g=>
   rw[List.find?_cons]at a
   cases he:iZ c.1 p with
   |true=>rw[he]at a;cases a;exact⟨0,by simp[Lx,List.findIdx?_cons,he],rfl⟩
   |false=>
     rw[he]at a;obtain⟨b,d,f⟩:=g a;refine⟨b+1,?_,by simpa using f⟩;unfold Lx at d ⊢;rw[List.findIdx?_cons,he,d];rfl
theorem MA:∀a∈sj,fW a<=12/\(fW a<=4↔pq a=true)/\(5<=fW a/\fW a<=10↔lH a=true):=by decide
theorem za{cols:List br}{e f:Ex}(a:cH cols (.two p w e f)=.inl n):∃b c,cH cols e=.inl b/\cH cols f=.inl c/\n=(if pq p then 0 else 2)/\b=c/\(b=(if pq p then 0 else 2)\/lH p=true):=by
 simp only[cH]at a
 cases hx:cH cols e with
 |inr d=>rw[hx]at a;cases a
 |inl b=>
   cases hy:cH cols f with
   |inr d=>rw[hx,hy]at a;cases a
   |inl c=>
     rw[hx,hy]at a;simp only at a;generalize (if pq p=true then(0:Nat)else 2)=wt at a ⊢;split at a
     . cases a
     . rename_i i
       refine⟨b,c,rfl,rfl,(lX a).symm,Decidable.byContradiction (λd=>i (.inl d)),?_⟩;by_cases g:b=wt
       . exact .inl g
       . exact .inr (by
          cases j:lH p with
          |true=>rfl
          |false=>exact absurd (.inr ⟨g,j⟩) i)
theorem tR{cols:List br}{b:Ex}:(∀{f:Bool} {d:Nat},cH cols (.kG f d b)=.inl w->∃e,cH cols b=.inl e)/\(∀{d:Nat},cH cols (.not d b)=.inl w->cH cols b=.inl 2)/\(∀{d:Nat},cH cols (.neg d b)=.inl w->cH cols b=.inl 0/\w=0):=by
 refine⟨λa=>?_,λa=>?_,λa=>?_⟩
 .simp only[cH]at a
  cases hx:cH cols b with
  |inr c=>rw[hx]at a;cases a
  |inl e=>exact⟨e,rfl⟩
 .simp only[cH]at a
  cases hx:cH cols b with
  |inr c=>rw[hx]at a;cases a
  |inl e=>
    rw[hx]at a;simp only at a;split at a
    . rename_i c;rw[c]
    . cases a
 simp only[cH]at a
 cases hx:cH cols b with
 |inr c=>rw[hx]at a;cases a
 |inl e=>
   rw[hx]at a;simp only at a;split at a
   . rename_i c;exact⟨by rw[c],(lX a).symm⟩
   . cases a
theorem E4{c d:dj}{b:aD}(a:iO v c d=.inl b)(e:∀b,c=.inl b->rN b)(g:∀b,d=.inl b->rN b):rN b:=by
 unfold iO at a
 cases c with
 |inr f=>cases a
 |inl i=>
   simp only at a;split at a
   . exact e _ a
   . cases d with
     |inr f=>cases a
     |inl j=>
       simp only at a
       repeat(first|(split at a)|(cases a;first|exact e _ rfl|exact g _ rfl))
theorem pR{cols:List br}{row:List aD}(w:gI cols row)(b:Ex)(i:pz b)(d:cH cols b=.inl 2){c:aD}(a:cU cols row b=.inl c):rN c:=by
 induction b generalizing c with
 |num K=>cases d
 |str K=>cases d
 |junk=>cases d
 |bool D=>cases a;exact xt D
 |col L m=>
   simp only[cH]at d
   cases hf:cols.find? (λc=>iZ c.1 L)with
   |none=>rw[hf]at d;cases d
   |some I=>
     rw[hf]at d;obtain⟨n,E,k⟩:=Mz hf;simp only[cU,E]at a;have v:n<row.length:=by rw[w.1];exact(aj.mp k).1
     have G:row[n]?=σ c:=by rw[af v];rw[<- lX a];simp[List.getD,List.getElem?_eq_getElem v]
     exact w.2 n c I G k (lX d)
 |kG O m j o=>
   simp only[cU]at a
   cases f:cU cols row j with
   |inr b=>rw[f]at a;cases a
   |inl C=>rw[f]at a;cases a;exact xt _
 |not m j o=>
   simp only[cU]at a
   cases f:cU cols row j with
   |inr b=>rw[f]at a;cases a
   |inl C=>
     rw[f]at a;simp only[sD,unO,OU]at a;split at a
     . cases a;exact o i (tR.2.1 d) f
     . simp only[if_true]at a;cases a;exact xt _
 |neg m j o=>exact absurd (tR.2.2 d).2 (by decide)
 |two e m j M s t=>
   obtain⟨B,N,f,A,k,z,r⟩:=za d;have l:=MA e i.1;have H:pq e=false:=by
    cases ha:pq e with
    |false=>rfl
    |true=>rw[ha]at k;cases k
   rw[H]at l r;simp only[cU]at a;by_cases u:fW e=11
   . rw[aF u]at a
     have g:lH e=false:=by cases g:lH e with
      |false=>rfl
      |true=>have:=l.2.2.mpr g;omega
     have p:B=2:=by rcases r with b|b;exact b;rw[g]at b;cases b
     subst z p;exact E4 a (λc=>s i.2.1 f) (λc=>t i.2.2 A)
   . rw[aE u]at a
     by_cases x:fW e=12
     . rw[aF x]at a
       have g:lH e=false:=by cases g:lH e with
        |false=>rfl
        |true=>have:=l.2.2.mpr g;omega
       have p:B=2:=by rcases r with b|b;exact b;rw[g]at b;cases b
       subst z p;exact E4 a (λc=>s i.2.1 f) (λc=>t i.2.2 A)
     . rw[aE x]at a
       have F:5<=fW e:=by
        rcases lR (fW e) 5 with y|y
        . have:=l.2.1.mp (by omega);cases this
        . exact y
       cases OV:cU cols row j with
       |inr b=>rw[OV]at a;cases a
       |inl P=>
         cases hy':cU cols row M with
         |inr b=>rw[OV,hy']at a;cases a
         |inl C=>
           rw[OV,hy']at a;simp only[vI]at a;split at a
           . cases a;exact .inl rfl
           . unfold FP at a
             rw[aF F]at a
             cases a
             exact xt _
def vl(cols:List br)(e:Ex):Prop:=∀w lo cv,ew w cv cols->lo<=w.heap.size->
 Calls prog 153 #[oL e,cv] w λr w'=>∃v,r=τ v/\dJ w' lo v (gI cols) (λrow=>cU cols row e)/\δ w.heap.size w w'
theorem BM(a:υ)(b:ω):(Instr.typeAssert (.iface 317 a) 183 317 true).run prog b=.ok (.tuple #[a,.bool true]) b:=by kernel_rfl
theorem FQ(b:υ)(a:ω):(Instr.typeAssert (.iface 110 b) 183 317 true).run prog a=.ok (.tuple #[χ #[ι κ 0,.bool false,ι κ 0,θ ⟨#[]⟩],.bool false]) a:=by kernel_rfl
theorem MB(a:υ)(b:ω):(Instr.typeAssert (.iface 110 a) 183 110 true).run prog b=.ok (.tuple #[a,.bool true]) b:=by kernel_rfl
theorem AF(b:υ)(a:ω):(Instr.typeAssert (.iface 320 b) 183 317 true).run prog a=.ok (.tuple #[χ #[ι κ 0,.bool false,ι κ 0,θ ⟨#[]⟩],.bool false]) a:=by kernel_rfl
theorem Ef(b:υ)(a:ω):(Instr.typeAssert (.iface 320 b) 183 110 true).run prog a=.ok (.tuple #[χ #[θ ⟨#[]⟩,ι κ 0],.bool false]) a:=by kernel_rfl
theorem zb(a:υ)(b:ω):(Instr.typeAssert (.iface 320 a) 183 320 true).run prog b=.ok (.tuple #[a,.bool true]) b:=by kernel_rfl
theorem CV(b:υ)(a:ω):(Instr.typeAssert (.iface 325 b) 183 317 true).run prog a=.ok (.tuple #[χ #[ι κ 0,.bool false,ι κ 0,θ ⟨#[]⟩],.bool false]) a:=by kernel_rfl
theorem Ia(b:υ)(a:ω):(Instr.typeAssert (.iface 325 b) 183 110 true).run prog a=.ok (.tuple #[χ #[θ ⟨#[]⟩,ι κ 0],.bool false]) a:=by kernel_rfl
theorem BN(b:υ)(a:ω):(Instr.typeAssert (.iface 325 b) 183 320 true).run prog a=.ok (.tuple #[χ #[.nilIface,.bool false],.bool false]) a:=by kernel_rfl
theorem Eg(a:υ)(b:ω):(Instr.typeAssert (.iface 325 a) 183 325 true).run prog b=.ok (.tuple #[a,.bool true]) b:=by kernel_rfl
theorem CW(b:υ)(a:ω):(Instr.typeAssert (.iface 329 b) 183 317 true).run prog a=.ok (.tuple #[χ #[ι κ 0,.bool false,ι κ 0,θ ⟨#[]⟩],.bool false]) a:=by kernel_rfl
theorem Ib(b:υ)(a:ω):(Instr.typeAssert (.iface 329 b) 183 110 true).run prog a=.ok (.tuple #[χ #[θ ⟨#[]⟩,ι κ 0],.bool false]) a:=by kernel_rfl
theorem BO(b:υ)(a:ω):(Instr.typeAssert (.iface 329 b) 183 320 true).run prog a=.ok (.tuple #[χ #[.nilIface,.bool false],.bool false]) a:=by kernel_rfl
theorem Eh(b:υ)(a:ω):(Instr.typeAssert (.iface 329 b) 183 325 true).run prog a=.ok (.tuple #[χ #[ι κ 0,ι κ 0,.nilIface],.bool false]) a:=by kernel_rfl
theorem Ei(a:υ)(b:ω):(Instr.typeAssert (.iface 329 a) 183 329 true).run prog b=.ok (.tuple #[a,.bool true]) b:=by kernel_rfl
theorem CX{cols:List br}{a:ω}{g:Nat}{s:υ}(d:Nat)(b:Int)(c:ByteArray)(l:g<=a.heap.size) :
 Calls prog 153 #[Rm d b c,s] a λe n=>∃m,e=τ m/\dJ n g m (gI cols) (λ_=>.inl ⟨false,b,c⟩)/\δ a.heap.size a n:=by have f:δ a.heap.size a (a.alloc (ξ #[ι κ d,.bool false,ι κ b,θ c] 317)):=(ah _ _).alloc (ae _) _;have o:=yT (w:=a.alloc (ξ #[ι κ d,.bool false,ι κ b,θ c] 317)) (lo:=g) (fv:=.func (.func 173) #[] #[π (σ ⟨a.heap.size,0,ν⟩)]) (ok:=gI cols) (G:=λ_=>⟨false,b,c⟩) ⟨_,_,rfl,call173,λv u r w e _ _ _=>aje r e d ⟨false,b,c⟩ (u.block l (au a _))⟩ (ag l f.size);have i:=f;clear f;unfold Rm;have x:=BM;go_in;go_wp2_with fail;refine o.mono ?_;rintro e y ⟨z,rfl,k,j⟩;have p:=k;have t:=i.trans (j.mono i.size);clear k j;go_wp2_with fail;go_ret;exact⟨_,rfl,p,t⟩
theorem aaZ{cols:List br}{b:ByteArray}{g a:Nat}(E:cols.length<=100000)(c:Lx cols b=σ a):vl cols (.col b g):=by
 intro d H z k t;have y:a<cols.length:=by unfold Lx at c;rw[iD]at c;exact c.1
 have s:yg cols b=(a:Int):=by unfold yg;rw[c]
 have j:δ d.heap.size d (d.alloc (obU b g)):=(ah _ _).alloc (ae _) _;have n:=Cj cols z b _ (k.below j (ae _)) E;rw[s]at n;have m:=ak (λ(e:ω) (p:δ d.heap.size d e)=>yT (w:=e.alloc (ξ #[ι κ a] 3)) (lo:=H) (fv:=.func (.func 175) #[] #[π (σ ⟨e.heap.size,0,ν⟩)]) (ok:=gI cols) (G:=λrow=>row.getD a fD) ⟨_,_,rfl,call175,λI D K L u A B C=>ajf (D.block (ag t p.size) (au e _)) A (by have:=C.1;simp[rowOf]at this;omega) B⟩ (ag t (ag p.size (by simp))));have l:=j;have v:Hid ((λrow=>cU cols row (.col b g))=λrow=>Sum.inl (row.getD a fD)):=ak (by funext row;simp only[cU,c]);obtain⟨P,M,F⟩:=k.slice;subst F;clear j k y s c;have N:=FQ;have O:=MB;show Calls prog _ #[.iface 110 (χ #[θ b,ι κ g]),_] d _;go_in;go_wp2_with fail;refine n.mono ?_;rintro u e ⟨rfl,f⟩;have i:=l.trans (f.mono l.size);have w:=m.J e i;have o:=i.alloc i.size (ξ #[ι κ a] 3);clear f i m;go_wp2_with fail;refine w.mono ?_;rintro u Q ⟨R,rfl,r,f⟩;have x:=r;have G:=o.trans (f.mono o.size);clear r f;go_wp2_with fail;go_ret;exact⟨_,rfl,by rw[v.J];exact x,G⟩
theorem aa0{cols:List br}{b:Ex}(B:vl cols b):vl cols (.kG v w b):=by intro a p x k l;obtain⟨L,P,s⟩:=sW b;have e:δ a.heap.size a (a.alloc (obW (oL b) v)):=(ah _ _).alloc (ae _) _;have g:=B _ p x (k.below e (ae _)) (ag l e.size);have i:=ak (λ(f:ω) (y:δ (a.alloc (obW (oL b) v)).heap.size (a.alloc (obW (oL b) v)) f)=>(show vG f p (.func (.func 177) #[] #[π (σ ⟨a.heap.size,0,ν⟩)]) OQ (λj=>.inl (jL (j.null != v)))from⟨_,_,rfl,call177,λE z j _=>ajE j v _ (z.block l ((y.block _ (by simp)).trans (au a _)))⟩));have c:=e;obtain⟨O,F,A⟩:=k.slice;subst A;have H:=AF;have I:=Ef;have K:=zb;show Calls prog _ #[.iface 320 (χ #[oL b,.bool v]),_] a _;rw[s]at g i c ⊢;clear e k s;go_in;go_wp2_with fail;refine g.mono ?_;rintro D f ⟨M,rfl,r,d⟩;have t:=CU r (i.J f d) (ag l (ag c.size d.size));have o:=c.trans (d.mono c.size);obtain⟨G,R,rfl,-⟩:=r;clear d g i;go_wp2_with fail;refine t.mono ?_;rintro D Q ⟨N,rfl,m,n⟩;have u:=m;have C:=o.trans (n.mono o.size);clear m n;go_wp2_with fail;go_ret;exact⟨_,rfl,u,C⟩
theorem OW{cols:List br}{c g:Nat}{f:Ex}(D:c=13\/c=14)(U:vl cols f){a:ω}{n:Nat}{p:υ}(v:ew a p cols)(o:n<=a.heap.size):Calls prog 153 #[.iface 325 (χ #[ι κ c,ι κ g,oL f]),p] a λi I=>∃H,i=τ H/\dJ I n H (gI cols) (λrow=>sD (unO (OU c g)) (cU cols row f))/\δ a.heap.size a I:=by
 obtain⟨te,ve,K⟩:=sW f;obtain⟨d,l⟩:=nm (a.alloc (obZ c g (oL f)));have e:=oJ l;have k:d.heap[a.heap.size]?=σ (obZ c g (oL f)):=by rw[l];exact au a _
 have u:=aH (ah d.heap.size d);have z:=U d.drew n p (v.below (e.trans (u.mono e.size)) (ae _)) (ag o e.size);obtain⟨n0,n1,V⟩:=kL k;have P:=ak (λj (t:δ d.heap.size d j)=>kL ((t.block _ (aw k)).trans k));have Q:=ak (λj t=>JZ (w:=j) (lo:=n) c g D t);have N:=e;have A:=ak l;have O:=u;have m:=e.size;obtain⟨va,dq,T⟩:=v.slice;subst T;have ad:=CV;have al:=Ia;have am:=BN;have an:=Eg;rw[K]at z A V ⊢;clear e v K k l u D;go_in;go_wp2_with fail;rw[<- A.J];go_region_with(first
  | (go_at_call 153;refine z.mono ?_;rintro i j ⟨v1,rfl,G,C⟩;have b:=O.trans C;obtain⟨Z,ac,-⟩:=P.J j b;have s:=ak b;have L:=ak G;obtain⟨k1,yH,rfl,-⟩:=G;clear C b)
  | (go_at_call 179;refine(Q.J _ (ag o (ag m s.J.size))).mono ?_;rintro i w2 ⟨v2,rfl,B,b⟩;have X:=ak B;have W:=ak (L.J.keep b);have w:=ak (s.J.trans (b.mono s.J.size));obtain⟨k2,jN,rfl,-⟩:=B;clear b)
  | (go_at_call 178;refine(H8 X.J (ag o (ag m w.J.size))).mono ?_;rintro i w3 ⟨v3,rfl,y,r⟩;have x:=ak (w.J.trans (r.mono w.J.size));have M:=ak (CU (W.J.keep r) y (ag o (ag m x.J.size)));obtain⟨k3,aa,rfl,-⟩:=y;clear r)
  | (go_at_call 176;refine M.J.mono ?_;rintro i w4 ⟨v4,rfl,E,F⟩;have R:=ak E;have Y:=ak (N.trans ((x.J.trans (F.mono x.J.size)).mono m));obtain⟨k4,ab,rfl,-⟩:=E;clear F))
 all_goals (try go_wp2_with fail);go_ret;exact⟨_,rfl,R.J,Y.J⟩
def Ic(cols:List br)(o a:Nat)(x y:Ex)(row:List aD):dj:=if o=11 then iO false (cU cols row x) (cU cols row y)else if o=12 then iO true (cU cols row x) (cU cols row y)else vI (FP o a) (cU cols row x) (cU cols row y)
def aa1(cols:List br)(lo o a:Nat)(x y:Ex):Prop:=∀w v1 v2,lo<=w.heap.size->dJ w lo v1 (gI cols) (λrow=>cU cols row x)->dJ w lo v2 (gI cols) (λrow=>cU cols row y)->
 (o=11->Calls prog 205 #[v1,v2,.bool false] w λr w'=>∃v,r=τ v/\dJ w' lo v (gI cols) (Ic cols o a x y)/\δ w.heap.size w w')/\
 (o=12->Calls prog 205 #[v1,v2,.bool true] w λr w'=>∃v,r=τ v/\dJ w' lo v (gI cols) (Ic cols o a x y)/\δ w.heap.size w w')/\
 (o<=10->∀w1 v3,δ w.heap.size w w1->wV w1 lo v3 OT (FP o a)->Calls prog 206 #[v1,v2,v3] w1 λr w'=>∃v,r=τ v/\dJ w' lo v (gI cols) (Ic cols o a x y)/\δ w1.heap.size w1 w')
theorem afo{cols:List br}{c d:Ex}(B:Nat)(g:pz (.two p w c d))(y:cH cols (.two p w c d)=.inl n):aa1 cols B (fW p) w c d:=by
 obtain⟨A,C,t,v,i,u,z⟩:=za y;have s:=MA p g.1;have two:fW p=11\/fW p=12->A=2:=by
  intro e;have l:pq p=false:=by cases l:pq p with
   |false=>rfl
   |true=>have:=s.2.1.mpr l;omega
  have b:lH p=false:=by cases b:lH p with
   |false=>rfl
   |true=>have:=s.2.2.mpr b;omega
  rcases z with a|a;{rw[l]at a;exact a};rw[b]at a;cases a
 intro G D E r k i;refine⟨λe=>?_,λe=>?_,λe H F m x=>?_⟩;{have o:=two (.inl e);subst u o;have a:Ic cols (fW p) w c d=λrow=>iO false (cU cols row c) (cU cols row d):=(by funext row;unfold Ic;rw[aF e]);rw[a];exact uI k i (λrow f j b=>pR f c g.2.1 t b) (λrow f j b=>pR f d g.2.2 v b) r};{have o:=two (.inr e);subst u o;have a:Ic cols (fW p) w c d=λrow=>iO true (cU cols row c) (cU cols row d):=(by funext row;unfold Ic;rw[aE (by omega),aF e]);rw[a];exact uI k i (λrow f j b=>pR f c g.2.1 t b) (λrow f j b=>pR f d g.2.2 v b) r};have a:Ic cols (fW p) w c d=λrow=>vI (FP (fW p) w) (cU cols row c) (cU cols row d):=(by funext row;unfold Ic;rw[aE (by omega),aE (by omega)]);rw[a];exact My (k.keep m) (i.keep m) x (ag r m.size)
theorem OX{cols:List br}{d a:Nat}{m n:Ex}(ho:d<=12)(Qr:vl cols m)(Rp:vl cols n){j:ω}{k:Nat}(hL:aa1 cols k d a m n){z:υ}(C:ew j z cols)(D:k<=j.heap.size):Calls prog 180 #[χ #[ι κ d,ι κ a,oL m,oL n],z] j λl X=>∃W,l=τ W/\dJ X k W (gI cols) (Ic cols d a m n)/\δ j.heap.size j X:=by
 obtain⟨te,ve,Y⟩:=sW m;obtain⟨am,an,Q⟩:=sW n;obtain⟨i,B⟩:=nm (j.alloc (obT d a (oL m) (oL n)));have f:=oJ B;have A:i.heap[j.heap.size]?=σ (obT d a (oL m) (oL n)):=by rw[B];exact au j _
 have U:=aH (ah i.heap.size i);have u:=Qr i.drew k z (C.below (f.trans (U.mono f.size)) (ae _)) (ag D f.size);have v:=ak (λe (b:δ i.heap.size i e)=>Rp e k z (C.below (f.trans (b.mono f.size)) (ae _)) (ag D (ag f.size b.size)));obtain⟨n0,n1,n2,n3⟩:=eo A;have y:=ak (λe (b:δ i.heap.size i e)=>eo ((b.block _ (aw A)).trans A));have x:=ak (λe (DB:d<=10) (b:k<=e.heap.size)=>J0 (w:=e) (lo:=k) d a DB b);have HB:=f;have F:=ak B;have I:=f.size;obtain⟨va,dq,hv⟩:=C.slice;subst hv;rw[Y]at u F n2 y ⊢;rw[Q]at v F n3 y ⊢;clear f C Y Q A B;go_in;go_wp2_with fail;rw[<- F.J];have T:d=11\/d=12\/d<=10:=by omega
 have w:=ak T;clear T ho;go_region_with(first
  | (go_at_call 153;(with_reducible refine dQ u ?_);rintro l e ⟨v1,rfl,V,R⟩;have G:=U.trans R;obtain⟨m0,m1,m2,m3⟩:=y.J e G;have H:=ak G;have Z:=ak V;obtain⟨k1,yH,rfl,-⟩:=V;clear R G)
  | (go_at_call 153;(with_reducible refine dQ (v.J e H.J) ?_);rintro l M ⟨v2,rfl,P,c⟩;have s:=H.J.trans (c.mono H.J.size);obtain⟨j0,j1,j2,j3⟩:=y.J M s;have K:=ak s;have qW:=ak (Z.J.keep c);have uz:=ak P;obtain⟨k2,jN,rfl,-⟩:=P;clear c s))
 all_goals
  have o:=ak (hL M _ _ (ag D (ag I K.J.size)) qW.J uz.J);have p:=HB.trans (K.J.mono I);rcases w.J with b|b|b
  {have r:=ak (o.J.1 b);clear o x u v w;subst b;go_wp2_with fail;refine r.J.mono ?_;rintro l N ⟨L,rfl,g,c⟩;have E:=g;have t:=p.trans (c.mono p.size);clear g c;go_wp2_with fail;go_ret;exact⟨_,rfl,E,t⟩};{have r:=ak (o.J.2.1 b);clear o x u v w;subst b;go_wp2_with fail;refine r.J.mono ?_;rintro l N ⟨L,rfl,g,c⟩;have E:=g;have t:=p.trans (c.mono p.size);clear g c;go_wp2_with fail;go_ret;exact⟨_,rfl,E,t⟩};have r:=ak (o.J.2.2 b);have O:=x.J M b (ag D (ag I K.J.size));have ad:((d:Int)==11)=false:=(by rw[aL];omega);have al:((d:Int)==12)=false:=(by rw[aL];omega);clear o x u v w b;go_wp2_with fail;refine O.mono ?_;rintro l N ⟨L,rfl,g,c⟩;have aa:=r.J N L c g;have t:=p.trans (c.mono p.size);obtain⟨k3,ac,rfl,-⟩:=g;clear c r O;go_wp2_with fail;refine aa.mono ?_;rintro l w4 ⟨v4,rfl,ab,s⟩;have zO:=t.trans (s.mono t.size);clear s;go_wp2_with fail;go_ret;exact⟨_,rfl,ab,zO⟩
theorem aa3{cols:List br}{a b:Ex}(g:pz (.two p w a b))(x:cH cols (.two p w a b)=.inl n)(t:vl cols a)(u:vl cols b):vl cols (.two p w a b):=by intro d z B f A;obtain⟨K,O,m⟩:=sW a;obtain⟨L,P,j⟩:=sW b;have c:δ d.heap.size d (d.alloc (obT (fW p) w (oL a) (oL b))):=(ah _ _).alloc (ae _) _;have i:=OX (a:=w) (MA p g.1).1 t u (afo z g x) (f.below c (ae _)) (ag A c.size);have e:=c;have s:Hid ((λrow=>cU cols row (.two p w a b))=Ic cols (fW p) w a b):=ak rfl;obtain⟨N,C,y⟩:=f.slice;subst y;have E:=CW;have F:=Ib;have G:=BO;have H:=Eh;have I:=Ei;show Calls prog _ #[.iface 329 (χ #[ι κ (fW p),ι κ w,oL a,oL b]),_] d _;rw[s.J];rw[m,j]at i e ⊢;generalize fW p=o at *;clear c f m j;go_in;go_wp2_with fail;refine i.mono ?_;rintro D Q ⟨M,rfl,l,k⟩;have r:=l;have v:=e.trans (k.mono e.size);clear l k;go_wp2_with fail;go_ret;exact⟨_,rfl,r,v⟩
theorem zc{cols:List br}(v:cols.length<=100000):∀(g:Ex),pz g->∀c,cH cols g=.inl c->vl cols g:=by
 intro g
 induction g with
 |num B=>exactλ_ c a k j f e b=>CX 0 B ⟨#[]⟩ b
 |str m=>exactλ_ c a k j f e b=>CX 1 0 m b
 |bool r=>exactλ_ c a k j f e b=>CX 2 (if r then 1 else 0) ⟨#[]⟩ b
 |junk=>exactλ_ c a k j f e b=>CX 0 0 ⟨#[]⟩ b
 |col m l=>
   intro _ c a;simp only[cH]at a
   cases hf:cols.find? (λs=>iZ s.1 m)with
   |none=>rw[hf]at a;cases a
   |some q=>
     obtain⟨C,t,-⟩:=Mz hf;exact aaZ v t
 |neg l n i=>exactλd c a k j f e b=>OW (.inl rfl) (i d 0 (tR.2.2 a).1) e b
 |not l n i=>exactλd c a k j f e b=>OW (.inr rfl) (i d 2 (tR.2.1 a)) e b
 |kG D l n i=>
   intro d c a;obtain⟨y,u⟩:=tR.1 a;exact aa0 (i d y u)
 |two E l n F o p=>
   intro d c a;obtain⟨z,A,w,x,-⟩:=za a;exact aa3 d a (o d.2.1 z w) (p d.2.2 A x)
