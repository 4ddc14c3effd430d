import Derived.Test.YtcoaphfimellcaaGreatDoorFAG
import Derived.Test.YtcoaphfimellcaaGreatDoorFAF
set_option maxHeartbeats 0
set_option maxRecDepth 100000
namespace Go.Proofs.YtcoaphfimellcaaGreatDoor
open Go.RowKit
open _root_.Go.Proofs.Tryz
open Option renaming some→σ,none→ν
open Go.IntKind renaming i64→κ
open Go.Ending renaming returned→τ
open Go.Obj renaming cells→ξ
open Go renaming World→ω,Value→υ
open Go.RowKit renaming Below→δ
open Go.Value renaming int→ι,string→θ,pointer→π,agg→χ
variable{w n:Nat}{p:ByteArray}{m:ω}{x:υ}{v:Bool}
theorem vO{s:υ}{ok:List aB->Prop}{e f:List aB->dm}(u:dX m w x ok e)(r:dX m w s ok f)(P:∀row,ok row->∀c,e row=.inl c->rI c)(Q:∀row,ok row->∀c,f row=.inl c->rI c)(T:w<=m.heap.size) :
 Calls prog 205 #[x,s,.bool v] m λU z=>∃y,U=τ y/\dX z w y ok (λrow=>ib v (e row) (f row))/\δ m.heap.size m z:=by
 have D:=au u;have V:=au r;have F:=au P;have G:=au Q;obtain⟨n,j,rfl,-⟩:=u;obtain⟨o,p,rfl,-⟩:=r;have b:=gT m (ξ #[.func (.func n) #[] j] 141) (ξ #[.func (.func o) #[] p] 141);have H:=au (ur v ((m.alloc (ξ #[.func (.func n) #[] j] 141)).alloc (ξ #[.func (.func o) #[] p] 141)));have E:Hid (zI (.inl (kE v))=χ #[.bool false,ι κ (kE v).n,θ ⟨#[]⟩,ι κ 0,ι κ 0]):=au rfl;have I:=au (λa (d:δ _ ((m.alloc (ξ #[.func (.func n) #[] j] 141)).alloc (ξ #[.func (.func o) #[] p] 141)) a)=>(show dX (a.alloc (obP false (kE v).n ⟨#[]⟩ 0 0)) w (.func (.func 224) #[] #[π (σ ⟨m.heap.size,0,ν⟩),π (σ ⟨a.heap.size,0,ν⟩),π (σ ⟨m.heap.size+1,0,ν⟩)]) ok (λrow=>ib v (e row) (f row))/\δ m.heap.size m (a.alloc (obP false (kE v).n ⟨#[]⟩ 0 0))from by
  have l:δ a.heap.size a (a.alloc (obP false (kE v).n ⟨#[]⟩ 0 0)):=(ah _ _).alloc (ae _) _;have g:=b.1.trans (d.mono b.1.size);have R:=g.size;have t:=g.trans (l.mono R);have K:=(l.block _ (ai (show m.heap.size<_ by simp;omega) d.size)).trans ((d.block _ (by simp;omega)).trans b.2.2);have L:=(l.block _ (ai (show m.heap.size+1<_ by simp) d.size)).trans ((d.block _ (by simp)).trans b.2.1);exact⟨⟨_,_,rfl,call224,λW i X Y rv aa k A M N O=>amA D.J V.J F.J G.J (gq.back t i) (i.block T K) (i.block (by omega) (ak a _)) (i.block (by omega) L) k A M N O⟩,t⟩))
 go_in;go_wp2_with fail;refine H.J.mono ?_;rintro Z a ⟨rfl,g⟩;have⟨k,b⟩:=I.J a g;have B:=au k;have C:=au b;rw[E.J];go_wp2;go_ret;exact⟨_,rfl,B.J,C.J⟩
theorem ZI(a:ω)(c:υ)(b:TypeId):(a.alloc (ξ #[c] b)).heap[a.heap.size]?=σ (ξ #[c] b (0,0))/\δ a.heap.size a (a.alloc (ξ #[c] b)):=
 ⟨ak a _,(ah _ _).alloc (ae _) _⟩
def Jv(o pl:Nat)(c:aB):dm:=if o=14 then .inl (kE (decide (c.n=0)))else CK pl (Cc 0 c.n)
theorem Lw{w:ω}{lo:Nat}(g e:Nat)(u:g=13\/g=14)(k:lo<=w.heap.size):Calls prog 179 #[ι κ g,ι κ e] w λl m=>∃a,l=τ a/\wO m lo a Q8 (Jv g e)/\δ w.heap.size w m:=by
 have n:Hid (wO w lo (.func (.func 201) #[] #[]) Q8 (λc=>.inl (kE (decide (c.n=0))))):=au ⟨_,_,rfl,call201,λi _ c _=>amq c i⟩;have r:=au (DV (w:=w) e k);have o:Hid (∀b a,δ w.heap.size w b->Ms b lo a e->wO (b.alloc (ξ #[a] 360)) lo (.func (.func 203) #[] #[π (σ ⟨b.heap.size,0,ν⟩)]) Q8 (λc=>CK e (Cc 0 c.n))):=au λb a d f=>⟨_,_,rfl,call203,λi j c _=>amr f (gq.back (ZI b a _).2 j) (j.block (ag k d.size) (ZI b a _).1) c⟩;rcases u with rfl|rfl
 {go_in;go_wp2_with fail;refine r.J.mono ?_;rintro l b ⟨a,rfl,f,d⟩;have s:=au (o.J b a d f);have p:=au (d.trans ((ZI b a 360).2.mono d.size));obtain⟨v,t,rfl,-⟩:=f;have x:=jz v t;go_wp2;go_ret;exact⟨_,rfl,s.J,p.J⟩};go_in;go_wp2;go_ret;exact⟨_,rfl,n.J,ah _ _⟩
def CN(o pl:Nat)(l r:aB):dm:=if 5<=o then .inl (kE (CL o (Qe l r)))else CK pl (uU o l.n r.n)
theorem Lx{w:ω}{lo:Nat}(a e:Nat)(A:a<=10)(j:lo<=w.heap.size):Calls prog 207 #[ι κ a,ι κ e] w λf t=>∃b,f=τ b/\xU t lo b Q9 (CN a e)/\δ w.heap.size w t:=by
 have n:δ w.heap.size w (w.alloc (ξ #[ι κ a] 323)):=(ah _ _).alloc (ae _) _;have l:=au n;by_cases m:5<=a;{have k:Hid (xU (w.alloc (ξ #[ι κ a] 323)) lo (.func (.func 226) #[] #[π (σ ⟨w.heap.size,0,ν⟩)]) Q9 (CN a e)):=au ⟨_,_,rfl,call226,λx g o f _=>by unfold CN;rw[aF m];exact amy a m A o f (g.block j (ak w _))⟩;have z:(5:Int)<=a:=(by omega);have D:(a:Int)<=10:=(by omega);go_in;go_wp2;go_ret;exact⟨_,rfl,k.J,l.J⟩}
 have u:=au (DV (lo:=lo) e (ag j n.size))
 have k:Hid (∀c b,δ (w.alloc (ξ #[ι κ a] 323)).heap.size (w.alloc (ξ #[ι κ a] 323)) c->Ms c lo b e->xU (c.alloc (ξ #[b] 360)) lo (.func (.func 229) #[] #[π (σ ⟨c.heap.size,0,ν⟩),π (σ ⟨w.heap.size,0,ν⟩)]) Q9 (CN a e)):=au λc b d i=>⟨_,_,rfl,call229,λx g o f _=>by
  have s:=(ZI c b 360).2;unfold CN;rw[aE m];have p:=ak w (ξ #[ι κ a] 323);have r:=(d.block _ (ay p)).trans p;exact ahO i (gq.back s g) (g.block (ag j (ag n.size d.size)) (ZI c b _).1) a (by omega) o f (g.block j ((s.block _ (ay r)).trans r))⟩
 have z:¬(5:Int)<=a:=by omega
 go_in;go_wp2_with fail;refine u.J.mono ?_;rintro f c ⟨b,rfl,i,d⟩;have v:=au (k.J c b d i);have B:=au (l.J.trans ((d.trans ((ZI c b 360).2.mono d.size)).mono l.J.size));obtain⟨C,y,rfl,-⟩:=i;have E:=jz C y;go_wp2;go_ret;exact⟨_,rfl,v.J,B.J⟩
def cU(cols:List bu)(row:List aB):Ex->dm
 |.num n=>.inl (pY n)
 |.str s=>.inl ⟨false,0,s⟩
 |.bool b=>.inl (kE b)
 |.junk=>.inl (pY 0)
 |.col s _=>.inl (match Nz cols s with
   |some i=>row.getD i gp
   |none=>gp)
 |.j8 no _ x=>rG (λc=>.inl (kE (c.null != no))) (cU cols row x)
 |.not a x=>rG (Xu (Jv 14 a)) (cU cols row x)
 |.neg a x=>rG (Xu (Jv 13 a)) (cU cols row x)
 |.two op a x y=>if gN op=11 then ib false (cU cols row x) (cU cols row y)else if gN op=12 then ib true (cU cols row x) (cU cols row y)else uI (CN (gN op) a) (cU cols row x) (cU cols row y)
def iy(cols:List bu)(row:List aB):Prop:=row.length=cols.length/\∀(i:Nat) (c:aB) (k:bu),row[i]?=σ c->cols[i]?=σ k->k.2=2->rI c
theorem yq(a:Bool):rI (kE a):=by cases a;exact .inr (.inl rfl);exact .inr (.inr rfl)
theorem OB{cols:List bu}{e:bu}(a:cols.find? (λc=>jN c.1 p)=σ e):∃b,Nz cols p=σ b/\cols[b]?=σ e:=by induction cols with|nil=>simp at a|cons c i g=>rw[yZ]at a;cases he:jN c.1 p with|true=>(rw[he]at a;cases a;exact⟨0,by simp[Nz,List.findIdx?_cons,he],rfl⟩)|false=>rw[he]at a;obtain⟨b,d,f⟩:=g a;refine⟨b+1,?_,by simpa using f⟩;unfold Nz at d ⊢;rw[List.findIdx?_cons,he,d];rfl
theorem OC:∀a∈tu,gN a<=12/\(gN a<=4↔pZ a=true)/\(5<=gN a/\gN a<=10↔mh a=true):=by decide
theorem Ag{cols:List bu}{e f:Ex}(a:cL cols (.two p w e f)=.inl n):∃b c,cL cols e=.inl b/\cL cols f=.inl c/\n=(if pZ p then 0 else 2)/\b=c/\(b=(if pZ p then 0 else 2)\/mh p=true):=by
 simp only[cL]at a;cases hx:cL cols e with
 |inr d=>rw[hx]at a;cases a
 |inl b=>
  cases hy:cL cols f with
  |inr d=>rw[hx,hy]at a;cases a
  |inl c=>
   rw[hx,hy]at a;simp only at a;generalize (if pZ p=true then(0:Nat)else 2)=wt at a ⊢;split at a;{cases a}
   rename_i i;refine⟨b,c,rfl,rfl,(jt a).symm,Decidable.byContradiction (λd=>i (.inl d)),?_⟩;by_cases g:b=wt;{exact .inl g}
   exact .inr (by
    cases j:mh p with
    |true=>rfl
    |false=>exact absurd (.inr ⟨g,j⟩) i)
theorem uX{cols:List bu}{b:Ex}:(∀{f:Bool} {d:Nat},cL cols (.j8 f d b)=.inl w->∃e,cL cols b=.inl e)/\(∀{d:Nat},cL cols (.not d b)=.inl w->cL cols b=.inl 2)/\(∀{d:Nat},cL cols (.neg d b)=.inl w->cL cols b=.inl 0/\w=0):=by refine⟨λa=>?_,λa=>?_,λa=>?_⟩;{simp only[cL]at a;cases hx:cL cols b with|inr c=>rw[hx]at a;cases a|inl e=>exact⟨e,rfl⟩};{simp only[cL]at a;cases hx:cL cols b with|inr c=>rw[hx]at a;cases a|inl e=>rw[hx]at a;simp only at a;split at a;{rename_i c;rw[c]};cases a};simp only[cL]at a;cases hx:cL cols b with|inr c=>rw[hx]at a;cases a|inl e=>rw[hx]at a;simp only at a;split at a;{rename_i c;exact⟨by rw[c],(jt a).symm⟩};cases a
theorem F5{c d:dm}{b:aB}(a:ib v c d=.inl b)(e:∀b,c=.inl b->rI b)(g:∀b,d=.inl b->rI b):rI b:=by unfold ib at a;cases c with|inr f=>cases a|inl i=>simp only at a;split at a;{exact e _ a};cases d with|inr f=>cases a|inl j=>simp only at a;repeat(first|(split at a)|(cases a;first|exact e _ rfl|exact g _ rfl))
theorem oU{cols:List bu}{row:List aB}(v:iy cols row)(b:Ex)(i:pI b)(d:cL cols b=.inl 2){c:aB}(a:cU cols row b=.inl c):rI c:=by
 induction b generalizing c with
 |num K=>cases d
 |str K=>cases d
 |junk=>cases d
 |bool D=>cases a;exact yq D
 |col L m=>simp only[cL]at d;cases hf:cols.find? (λc=>jN c.1 L)with|none=>rw[hf]at d;cases d|some I=>rw[hf]at d;obtain⟨n,E,k⟩:=OB hf;simp only[cU,E]at a;have u:n<row.length:=(by rw[v.1];exact(aj.mp k).1);have G:row[n]?=σ c:=(by rw[af u];rw[<- jt a];simp[List.getD,List.getElem?_eq_getElem u]);exact v.2 n c I G k (jt d)
 |j8 O m j o=>simp only[cU]at a;cases f:cU cols row j with|inr b=>rw[f]at a;cases a|inl C=>rw[f]at a;cases a;exact yq _
 |not m j o=>simp only[cU]at a;cases f:cU cols row j with|inr b=>rw[f]at a;cases a|inl C=>rw[f]at a;simp only[rG,Xu,Jv]at a;split at a;{cases a;exact o i (uX.2.1 d) f};simp only[if_true]at a;cases a;exact yq _
 |neg m j o=>exact absurd (uX.2.2 d).2 (by decide)
 |two e m j M s t=>
  obtain⟨B,N,f,A,k,z,r⟩:=Ag d;have l:=OC e i.1;have H:pZ e=false:=(by cases ha:pZ e with|false=>rfl|true=>rw[ha]at k;cases k);rw[H]at l r;simp only[cU]at a;by_cases w:gN e=11
  .rw[aF w]at a;have g:mh e=false:=by cases g:mh e with
    |false=>rfl
    |true=>have:=l.2.2.mpr g;omega
   have p:B=2:=by rcases r with b|b;exact b;rw[g]at b;cases b
   subst z p;exact F5 a (λc=>s i.2.1 f) (λc=>t i.2.2 A)
  rw[aE w]at a;by_cases x:gN e=12
  .rw[aF x]at a;have g:mh e=false:=by cases g:mh e with
    |false=>rfl
    |true=>have:=l.2.2.mpr g;omega
   have p:B=2:=by rcases r with b|b;exact b;rw[g]at b;cases b
   subst z p;exact F5 a (λc=>s i.2.1 f) (λc=>t i.2.2 A)
  rw[aE x]at a;have F:5<=gN e:=(by rcases mC (gN e) 5 with y|y;{have:=l.2.1.mp (by omega);cases this};exact y);cases Mu:cU cols row j with|inr b=>rw[Mu]at a;cases a|inl P=>cases hy':cU cols row M with|inr b=>rw[Mu,hy']at a;cases a|inl C=>rw[Mu,hy']at a;simp only[uI]at a;split at a;{cases a;exact .inl rfl};unfold CN at a;rw[aF F]at a;cases a;exact yq _
def wE(cols:List bu)(e:Ex):Prop:=∀w lo cv,eT w cv cols->lo<=w.heap.size->
 Calls prog 153 #[pz e,cv] w λr w'=>∃v,r=τ v/\dX w' lo v (iy cols) (λrow=>cU cols row e)/\δ w.heap.size w w'
theorem CO(a:υ)(b:ω):(Instr.typeAssert (.iface 317 a) 183 317 true).run prog b=.ok (.tuple #[a,.bool true]) b:=by kernel_rfl
theorem G3(b:υ)(a:ω):(Instr.typeAssert (.iface 110 b) 183 317 true).run prog a=.ok (.tuple #[χ #[ι κ 0,.bool false,ι κ 0,θ ⟨#[]⟩],.bool false]) a:=by kernel_rfl
theorem OD(a:υ)(b:ω):(Instr.typeAssert (.iface 110 a) 183 110 true).run prog b=.ok (.tuple #[a,.bool true]) b:=by kernel_rfl
theorem BK(b:υ)(a:ω):(Instr.typeAssert (.iface 320 b) 183 317 true).run prog a=.ok (.tuple #[χ #[ι κ 0,.bool false,ι κ 0,θ ⟨#[]⟩],.bool false]) a:=by kernel_rfl
theorem Fb(b:υ)(a:ω):(Instr.typeAssert (.iface 320 b) 183 110 true).run prog a=.ok (.tuple #[χ #[θ ⟨#[]⟩,ι κ 0],.bool false]) a:=by kernel_rfl
theorem Ah(a:υ)(b:ω):(Instr.typeAssert (.iface 320 a) 183 320 true).run prog b=.ok (.tuple #[a,.bool true]) b:=by kernel_rfl
theorem D0(b:υ)(a:ω):(Instr.typeAssert (.iface 325 b) 183 317 true).run prog a=.ok (.tuple #[χ #[ι κ 0,.bool false,ι κ 0,θ ⟨#[]⟩],.bool false]) a:=by kernel_rfl
theorem Jw(b:υ)(a:ω):(Instr.typeAssert (.iface 325 b) 183 110 true).run prog a=.ok (.tuple #[χ #[θ ⟨#[]⟩,ι κ 0],.bool false]) a:=by kernel_rfl
theorem CP(b:υ)(a:ω):(Instr.typeAssert (.iface 325 b) 183 320 true).run prog a=.ok (.tuple #[χ #[.nilIface,.bool false],.bool false]) a:=by kernel_rfl
theorem Fc(a:υ)(b:ω):(Instr.typeAssert (.iface 325 a) 183 325 true).run prog b=.ok (.tuple #[a,.bool true]) b:=by kernel_rfl
theorem D1(b:υ)(a:ω):(Instr.typeAssert (.iface 329 b) 183 317 true).run prog a=.ok (.tuple #[χ #[ι κ 0,.bool false,ι κ 0,θ ⟨#[]⟩],.bool false]) a:=by kernel_rfl
theorem Jy(b:υ)(a:ω):(Instr.typeAssert (.iface 329 b) 183 110 true).run prog a=.ok (.tuple #[χ #[θ ⟨#[]⟩,ι κ 0],.bool false]) a:=by kernel_rfl
theorem CQ(b:υ)(a:ω):(Instr.typeAssert (.iface 329 b) 183 320 true).run prog a=.ok (.tuple #[χ #[.nilIface,.bool false],.bool false]) a:=by kernel_rfl
theorem Fe(b:υ)(a:ω):(Instr.typeAssert (.iface 329 b) 183 325 true).run prog a=.ok (.tuple #[χ #[ι κ 0,ι κ 0,.nilIface],.bool false]) a:=by kernel_rfl
theorem Ff(a:υ)(b:ω):(Instr.typeAssert (.iface 329 a) 183 329 true).run prog b=.ok (.tuple #[a,.bool true]) b:=by kernel_rfl
theorem D2{cols:List bu}{a:ω}{g:Nat}{s:υ}(d:Nat)(b:Int)(c:ByteArray)(l:g<=a.heap.size) :
 Calls prog 153 #[T9 d b c,s] a λe n=>∃m,e=τ m/\dX n g m (iy cols) (λ_=>.inl ⟨false,b,c⟩)/\δ a.heap.size a n:=by have f:δ a.heap.size a (a.alloc (ξ #[ι κ d,.bool false,ι κ b,θ c] 317)):=(ah _ _).alloc (ae _) _;have o:=zV (w:=a.alloc (ξ #[ι κ d,.bool false,ι κ b,θ c] 317)) (lo:=g) (fv:=.func (.func 173) #[] #[π (σ ⟨a.heap.size,0,ν⟩)]) (ok:=iy cols) (G:=λ_=>⟨false,b,c⟩) ⟨_,_,rfl,call173,λv t r w e _ _ _=>al3 r e d ⟨false,b,c⟩ (t.block l (ak a _))⟩ (ag l f.size);have i:=f;clear f;unfold T9;have x:=CO;go_in;go_wp2_with fail;refine o.mono ?_;rintro e y ⟨z,rfl,k,j⟩;have p:=k;have u:=i.trans (j.mono i.size);clear k j;go_wp2_with fail;go_ret;exact⟨_,rfl,p,u⟩
theorem adq{cols:List bu}{b:ByteArray}{g a:Nat}(E:cols.length<=100000)(c:Nz cols b=σ a):wE cols (.col b g):=by
 intro d H z k t;have y:a<cols.length:=by unfold Nz at c;rw[jx]at c;exact c.1
 have s:zl cols b=(a:Int):=by unfold zl;rw[c]
 have j:δ d.heap.size d (d.alloc (obU b g)):=(ah _ _).alloc (ae _) _;have n:=Dp cols z b _ (k.below j (ae _)) E;rw[s]at n;have m:=au (λ(e:ω) (o:δ d.heap.size d e)=>zV (w:=e.alloc (ξ #[ι κ a] 3)) (lo:=H) (fv:=.func (.func 175) #[] #[π (σ ⟨e.heap.size,0,ν⟩)]) (ok:=iy cols) (G:=λrow=>row.getD a gp) ⟨_,_,rfl,call175,λI D K L u A B C=>al4 (D.block (ag t o.size) (ak e _)) A (by have:=C.1;simp[rowOf]at this;omega) B⟩ (ag t (ag o.size (by simp))));have l:=j;have v:Hid ((λrow=>cU cols row (.col b g))=λrow=>Sum.inl (row.getD a gp)):=au (by funext row;simp only[cU,c]);obtain⟨P,M,F⟩:=k.slice;subst F;clear j k y s c;have N:=G3;have O:=OD;show Calls prog _ #[.iface 110 (χ #[θ b,ι κ g]),_] d _;go_in;go_wp2_with fail;refine n.mono ?_;rintro u e ⟨rfl,f⟩;have i:=l.trans (f.mono l.size);have w:=m.J e i;have r:=i.alloc i.size (ξ #[ι κ a] 3);clear f i m;go_wp2_with fail;refine w.mono ?_;rintro u Q ⟨R,rfl,p,f⟩;have x:=p;have G:=r.trans (f.mono r.size);clear p f;go_wp2_with fail;go_ret;exact⟨_,rfl,by rw[v.J];exact x,G⟩
theorem adr{cols:List bu}{b:Ex}(B:wE cols b):wE cols (.j8 v w b):=by intro a p x k l;obtain⟨L,P,s⟩:=uj b;have e:δ a.heap.size a (a.alloc (obW (pz b) v)):=(ah _ _).alloc (ae _) _;have g:=B _ p x (k.below e (ae _)) (ag l e.size);have i:=au (λ(f:ω) (y:δ (a.alloc (obW (pz b) v)).heap.size (a.alloc (obW (pz b) v)) f)=>(show wO f p (.func (.func 177) #[] #[π (σ ⟨a.heap.size,0,ν⟩)]) Q8 (λj=>.inl (kE (j.null != v)))from⟨_,_,rfl,call177,λE z j _=>ams j v _ (z.block l ((y.block _ (by simp)).trans (ak a _)))⟩));have c:=e;obtain⟨O,F,A⟩:=k.slice;subst A;have H:=BK;have I:=Fb;have K:=Ah;show Calls prog _ #[.iface 320 (χ #[pz b,.bool v]),_] a _;rw[s]at g i c ⊢;clear e k s;go_in;go_wp2_with fail;refine g.mono ?_;rintro D f ⟨M,rfl,r,d⟩;have t:=DZ r (i.J f d) (ag l (ag c.size d.size));have o:=c.trans (d.mono c.size);obtain⟨G,R,rfl,-⟩:=r;clear d g i;go_wp2_with fail;refine t.mono ?_;rintro D Q ⟨N,rfl,m,n⟩;have u:=m;have C:=o.trans (n.mono o.size);clear m n;go_wp2_with fail;go_ret;exact⟨_,rfl,u,C⟩
theorem Ra{cols:List bu}{c g:Nat}{f:Ex}(D:c=13\/c=14)(V:wE cols f){a:ω}{n:Nat}{p:υ}(t:eT a p cols)(o:n<=a.heap.size):Calls prog 153 #[.iface 325 (χ #[ι κ c,ι κ g,pz f]),p] a λi I=>∃H,i=τ H/\dX I n H (iy cols) (λrow=>rG (Xu (Jv c g)) (cU cols row f))/\δ a.heap.size a I:=by
 obtain⟨te,ve,K⟩:=uj f;obtain⟨d,l⟩:=nm (a.alloc (obZ c g (pz f)));have e:=pq l;have k:d.heap[a.heap.size]?=σ (obZ c g (pz f)):=by rw[l];exact ak a _
 have s:=aH (ah d.heap.size d);have z:=V d.drew n p (t.below (e.trans (s.mono e.size)) (ae _)) (ag o e.size);obtain⟨n0,n1,W⟩:=lx k;have Q:=au (λj (r:δ d.heap.size d j)=>lx ((r.block _ (ay k)).trans k));have R:=au (λj r=>Lw (w:=j) (lo:=n) c g D r);have O:=e;have A:=au l;have P:=s;have m:=e.size;obtain⟨va,dG,U⟩:=t.slice;subst U;have ad:=D0;have al:=Jw;have am:=CP;have an:=Fc;rw[K]at z A W ⊢;clear e t K k l s D;go_in;go_wp2_with fail;rw[<- A.J];go_region_with(first
  | (go_at_call 153;refine z.mono ?_;rintro i j ⟨v1,rfl,G,C⟩;have b:=P.trans C;obtain⟨Z,ac,-⟩:=Q.J j b;have u:=au b;have M:=au G;obtain⟨k1,zJ,rfl,-⟩:=G;clear C b)
  | (go_at_call 179;refine(R.J _ (ag o (ag m u.J.size))).mono ?_;rintro i w2 ⟨v2,rfl,B,b⟩;have Y:=au B;have X:=au (M.J.keep b);have w:=au (u.J.trans (b.mono u.J.size));obtain⟨k2,kH,rfl,-⟩:=B;clear b)
  | (go_at_call 178;refine(Ju Y.J (ag o (ag m w.J.size))).mono ?_;rintro i w3 ⟨v3,rfl,y,v⟩;have x:=au (w.J.trans (v.mono w.J.size));have N:=au (DZ (X.J.keep v) y (ag o (ag m x.J.size)));obtain⟨k3,aa,rfl,-⟩:=y;clear v)
  | (go_at_call 176;refine N.J.mono ?_;rintro i w4 ⟨v4,rfl,E,F⟩;have T:=au E;have L:=au (O.trans ((x.J.trans (F.mono x.J.size)).mono m));obtain⟨k4,ab,rfl,-⟩:=E;clear F))
 all_goals (try go_wp2_with fail);go_ret;exact⟨_,rfl,T.J,L.J⟩
def Jz(cols:List bu)(o a:Nat)(x y:Ex)(row:List aB):dm:=if o=11 then ib false (cU cols row x) (cU cols row y)else if o=12 then ib true (cU cols row x) (cU cols row y)else uI (CN o a) (cU cols row x) (cU cols row y)
def ads(cols:List bu)(lo o a:Nat)(x y:Ex):Prop:=∀w v1 v2,lo<=w.heap.size->dX w lo v1 (iy cols) (λrow=>cU cols row x)->dX w lo v2 (iy cols) (λrow=>cU cols row y)->
 (o=11->Calls prog 205 #[v1,v2,.bool false] w λr w'=>∃v,r=τ v/\dX w' lo v (iy cols) (Jz cols o a x y)/\δ w.heap.size w w')/\
 (o=12->Calls prog 205 #[v1,v2,.bool true] w λr w'=>∃v,r=τ v/\dX w' lo v (iy cols) (Jz cols o a x y)/\δ w.heap.size w w')/\
 (o<=10->∀w1 v3,δ w.heap.size w w1->xU w1 lo v3 Q9 (CN o a)->Calls prog 206 #[v1,v2,v3] w1 λr w'=>∃v,r=τ v/\dX w' lo v (iy cols) (Jz cols o a x y)/\δ w1.heap.size w1 w')
theorem ahP{cols:List bu}{c d:Ex}(B:Nat)(g:pI (.two p w c d))(y:cL cols (.two p w c d)=.inl n):ads cols B (gN p) w c d:=by
 have⟨z,C,t,v,i,u,A⟩:=Ag y;have s:=OC p g.1;have two:gN p=11\/gN p=12->z=2:=by
  intro e;have l:pZ p=false:=by cases l:pZ p with
   |false=>rfl
   |true=>have:=s.2.1.mpr l;omega
  have b:mh p=false:=by cases b:mh p with
   |false=>rfl
   |true=>have:=s.2.2.mpr b;omega
  rcases A with a|a;{rw[l]at a;exact a};rw[b]at a;cases a
 intro G D E r k i;refine⟨λe=>?_,λe=>?_,λe H F m x=>?_⟩;{have o:=two (.inl e);subst u o;have a:Jz cols (gN p) w c d=λrow=>ib false (cU cols row c) (cU cols row d):=(by funext row;unfold Jz;rw[aF e]);rw[a];exact vO k i (λrow f j b=>oU f c g.2.1 t b) (λrow f j b=>oU f d g.2.2 v b) r};{have o:=two (.inr e);subst u o;have a:Jz cols (gN p) w c d=λrow=>ib true (cU cols row c) (cU cols row d):=(by funext row;unfold Jz;rw[aE (by omega),aF e]);rw[a];exact vO k i (λrow f j b=>oU f c g.2.1 t b) (λrow f j b=>oU f d g.2.2 v b) r};have a:Jz cols (gN p) w c d=λrow=>uI (CN (gN p) w) (cU cols row c) (cU cols row d):=(by funext row;unfold Jz;rw[aE (by omega),aE (by omega)]);rw[a];exact OA (k.keep m) (i.keep m) x (ag r m.size)
theorem Rb{cols:List bu}{d a:Nat}{m n:Ex}(ho:d<=12)(Tl:wE cols m)(Uc:wE cols n){j:ω}{k:Nat}(hL:ads cols k d a m n){z:υ}(C:eT j z cols)(D:k<=j.heap.size):Calls prog 180 #[χ #[ι κ d,ι κ a,pz m,pz n],z] j λl X=>∃W,l=τ W/\dX X k W (iy cols) (Jz cols d a m n)/\δ j.heap.size j X:=by
 have⟨te,ve,Y⟩:=uj m;have⟨am,an,Q⟩:=uj n;have⟨i,B⟩:=nm (j.alloc (obT d a (pz m) (pz n)));have f:=pq B;have A:i.heap[j.heap.size]?=σ (obT d a (pz m) (pz n)):=by rw[B];exact ak j _
 have U:=aH (ah i.heap.size i);have u:=Tl i.drew k z (C.below (f.trans (U.mono f.size)) (ae _)) (ag D f.size);have v:=au (λe (b:δ i.heap.size i e)=>Uc e k z (C.below (f.trans (b.mono f.size)) (ae _)) (ag D (ag f.size b.size)));have⟨n0,n1,n2,n3⟩:=eQ A;have y:=au (λe (b:δ i.heap.size i e)=>eQ ((b.block _ (ay A)).trans A));have x:=au (λe (Xy:d<=10) (b:k<=e.heap.size)=>Lx (w:=e) (lo:=k) d a Xy b);have HB:=f;have F:=au B;have H:=f.size;have⟨va,dG,hv⟩:=C.slice;subst hv;rw[Y]at u F n2 y ⊢;rw[Q]at v F n3 y ⊢;clear f C Y Q A B;go_in;go_wp2_with fail;rw[<- F.J];have T:d=11\/d=12\/d<=10:=by omega
 have w:=au T;clear T ho;go_region_with(first
  | (go_at_call 153;(with_reducible refine eu u ?_);rintro l e ⟨v1,rfl,V,R⟩;have G:=U.trans R;have⟨m0,m1,m2,m3⟩:=y.J e G;have I:=au G;have FW:=au V;obtain⟨k1,zJ,rfl,-⟩:=V;clear R G)
  | (go_at_call 153;(with_reducible refine eu (v.J e I.J) ?_);rintro l M ⟨v2,rfl,P,c⟩;have s:=I.J.trans (c.mono I.J.size);have⟨j0,j1,j2,j3⟩:=y.J M s;have K:=au s;have sJ:=au (FW.J.keep c);have vG:=au P;obtain⟨k2,kH,rfl,-⟩:=P;clear c s))
 all_goals
  have o:=au (hL M _ _ (ag D (ag H K.J.size)) sJ.J vG.J);have p:=HB.trans (K.J.mono H);rcases w.J with b|b|b
  {have r:=au (o.J.1 b);clear o x u v w;subst b;go_wp2_with fail;refine r.J.mono ?_;rintro l N ⟨L,rfl,g,c⟩;have E:=g;have t:=p.trans (c.mono p.size);clear g c;go_wp2;go_ret;exact⟨_,rfl,E,t⟩};{have r:=au (o.J.2.1 b);clear o x u v w;subst b;go_wp2_with fail;refine r.J.mono ?_;rintro l N ⟨L,rfl,g,c⟩;have E:=g;have t:=p.trans (c.mono p.size);clear g c;go_wp2;go_ret;exact⟨_,rfl,E,t⟩};have r:=au (o.J.2.2 b);have O:=x.J M b (ag D (ag H K.J.size));have ad:((d:Int)==11)=false:=(by rw[aK];omega);have al:((d:Int)==12)=false:=(by rw[aK];omega);clear o x u v w b;go_wp2_with fail;refine O.mono ?_;rintro l N ⟨L,rfl,g,c⟩;have aa:=r.J N L c g;have t:=p.trans (c.mono p.size);obtain⟨k3,ac,rfl,-⟩:=g;clear c r O;go_wp2_with fail;refine aa.mono ?_;rintro l w4 ⟨v4,rfl,ab,s⟩;have Z:=t.trans (s.mono t.size);clear s;go_wp2;go_ret;exact⟨_,rfl,ab,Z⟩
theorem adt{cols:List bu}{a b:Ex}(f:pI (.two p w a b))(t:cL cols (.two p w a b)=.inl n)(l:wE cols a)(m:wE cols b):wE cols (.two p w a b):=by intro c x B i y;have⟨K,O,A⟩:=uj a;have⟨L,P,r⟩:=uj b;have e:δ c.heap.size c (c.alloc (obT (gN p) w (pz a) (pz b))):=(ah _ _).alloc (ae _) _;have g:=Rb (a:=w) (OC p f.1).1 l m (ahP x f t) (i.below e (ae _)) (ag y e.size);have d:=e;have k:Hid ((λrow=>cU cols row (.two p w a b))=Jz cols (gN p) w a b):=au rfl;have⟨N,C,u⟩:=i.slice;subst u;have E:=D1;have F:=Jy;have G:=CQ;have H:=Fe;have I:=Ff;show Calls prog _ #[.iface 329 (χ #[ι κ (gN p),ι κ w,pz a,pz b]),_] c _;rw[k.J];rw[A,r]at g d ⊢;generalize gN p=o at *;go_in;go_wp2_with fail;refine g.mono ?_;rintro D Q ⟨M,rfl,z,s⟩;have j:=z;have v:=d.trans (s.mono d.size);go_wp2;go_ret;exact⟨_,rfl,j,v⟩
theorem Ai{cols:List bu}(v:cols.length<=100000):∀(g:Ex),pI g->∀c,cL cols g=.inl c->wE cols g:=by intro g;induction g with|num B=>exactλ_ c a k j f e b=>D2 0 B ⟨#[]⟩ b|str m=>exactλ_ c a k j f e b=>D2 1 0 m b|bool r=>(exactλ_ c a k j f e b=>D2 2 (if r then 1 else 0) ⟨#[]⟩ b)|junk=>exactλ_ c a k j f e b=>D2 0 0 ⟨#[]⟩ b|col m l=>(intro _ c a;simp only[cL]at a;cases hf:cols.find? (λs=>jN s.1 m)with|none=>rw[hf]at a;cases a|some q=>obtain⟨C,t,-⟩:=OB hf;exact adq v t)|neg l n i=>exactλd c a k j f e b=>Ra (.inl rfl) (i d 0 (uX.2.2 a).1) e b|not l n i=>exactλd c a k j f e b=>Ra (.inr rfl) (i d 2 (uX.2.1 a)) e b|j8 D l n i=>(intro d c a;have⟨y,u⟩:=uX.1 a;exact adr (i d y u))|two E l n F o p=>intro d c a;obtain⟨z,A,w,x,-⟩:=Ag a;exact adt d a (o d.2.1 z w) (p d.2.2 A x)
