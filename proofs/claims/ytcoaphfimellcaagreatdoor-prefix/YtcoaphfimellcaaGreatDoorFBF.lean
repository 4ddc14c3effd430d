import Derived.Test.YtcoaphfimellcaaGreatDoorFBB
import Derived.Test.YtcoaphfimellcaaGreatDoorFBC
import Derived.Test.YtcoaphfimellcaaGreatDoorFBE
set_option maxHeartbeats 0
set_option maxRecDepth 100000
namespace Go.Proofs.YtcoaphfimellcaaGreatDoor
open Go.RowKit
open _root_.Go.Proofs.Tryz
open Option renaming some→σ,none→ν
open Go.IntKind renaming i64→κ
open Go.Obj renaming cells→ξ
open Go renaming World→ω,Value→υ
open Go.RowKit renaming Below→δ
open Go.Value renaming int→ι,string→θ,slice→ψ,pointer→π,agg→χ
variable{p r:Nat}{m:υ}{x:Nat×Nat}{v:Nat->Prop}{n u:ω}{t:TypeId}
def pL(left:Int)(cols:List bu)(R:List (List aB)):List mK->(Nat×Nat) ⊕ (List bu×List (List aB))
 |[]=>.inr (cols,R)
 |s::l=>match oq cols R s.2 with
   |.inl p=>.inl (9,p)
   |.inr R2=>if left - R2.length<0 then .inl (10,s.1)else match lj cols s.2 with
     |.inl g=>.inl g
     |.inr c=>pL (left - R2.length) c R2 l
def ng(bud pl:Nat)(cols:List bu)(S:List (List aB))(ss:List mK):(Nat×Nat) ⊕ (List bu×List (List aB)):=if(bud:Int) - S.length<0 then .inl (10,pl)else pL ((bud:Int) - S.length) cols S ss
theorem aac{left:Int}{cols:List bu}{R:List (List aB)}{ss:List mK}{i:Nat}{s:mK}(d:ss[i]?=σ s):pL left cols R (ss.drop i)=match oq cols R s.2 with
 |.inl g=>.inl (9,g)
 |.inr R2=>if left - R2.length<0 then .inl (10,s.1)else match lj cols s.2 with
   |.inl c=>.inl c
   |.inr a=>pL (left - R2.length) a R2 (ss.drop (i+1)):=by
 obtain⟨b,f⟩:=aj.mp d;rw[cE b,f];rfl
theorem CU{cols:List bu}{ss:List mK}{i:Nat}{s:mK}(j:ss[i]?=σ s)(b:gw cols (ss.drop i)=(0,0)):∃nc,lj cols s.2=.inr nc/\gw nc (ss.drop (i+1))=(0,0):=by obtain⟨f,k⟩:=aj.mp j;rw[cE f,k]at b;simp only[gw]at b;split at b;{rename_i n a;exfalso;subst b;cases hs:s.2 with|gK e m=>rw[hs]at a;simp only[lj]at a;split at a;{cases a};rename_i c;rw[jt a]at c;exact c rfl|mapA r=>rw[hs]at a;exact Bi a rfl|kh p=>rw[hs]at a;cases a|gF m=>rw[hs]at a;cases a};rename_i d g;exact⟨d,g,b⟩
theorem RB{cols:List bu}{row:List aB}(f:zZ cols row):∀{c:List Cb} {l nc:List bu} {out:List aB},(∀a∈c,pI a.2.1/\Ao a.2.1/\Nm8 a.1.1)->gS cols c l=.inr nc->pB cols c row=.inr out->∃m:List bu,nc=l++m/\zZ m out
 |[],l,nc,out,_,h1,h2=>by cases h1;cases h2;exact⟨[],by simp,rfl,λb n k t=>by simp at t⟩
 |a::c,l,nc,out,hf,h1,h2=>by
   simp only[gS]at h1;split at h1
   . cases h1
   . split at h1
     . cases h1
     . rename_i k u
       unfold pB at h2;simp only[dL]at h2
       cases he:cU cols row a.2.1 with
       |inr D=>rw[he]at h2;simp[qN]at h2
       |inl n=>
         rw[he]at h2;simp only[qN]at h2;split at h2
         . cases h2
         . rename_i C z
           cases h2
           obtain⟨y,r,d⟩:=RB f (λA v=>hf A (cz _ v)) h1 z;refine⟨(a.1.1,k)::y,by rw[r];simp,by simp[d.1],λb p x g j=>?_⟩
           cases b with
           |zero=>cases g;cases j;exact adS f a.2.1 (hf a (dw ..)).1 (hf a (dw ..)).2.1 u he
           |succ b=>exact d.2 b p x (by simpa using g) (by simpa using j)
theorem ad9{cols nc:List bu}{b:List Cb}(j:∀a∈b,pI a.2.1/\Ao a.2.1/\Nm8 a.1.1)(k:gS cols b []=.inr nc):∀{R R2:List (List aB)},fH cols R->dL (pB cols b) R=.inr R2->fH nc R2:=λ{R R2} g f a m=>by
 obtain⟨r,n,p⟩:=Mq f a m;obtain⟨t,c,d⟩:=RB (g r n) j k p;rw[c];simpa using d
theorem JT{cols nc:List bu}{c:Ar}{R R2:List (List aB)}(j:qg c)(a:lj cols c=.inr nc)(f:fH cols R)(b:oq cols R c=.inr R2):fH nc R2/\R2.length<=R.length:=by cases c with|gK e k=>(simp only[lj]at a;split at a;{cases a;simp only[oq]at b;exact⟨λg d=>f g (by rw[uq b]at d;exact(eW.mp d).1),DW b⟩};cases a)|mapA n=>exact⟨ad9 j.2.2 a f b,nN (Ba b)⟩|kh m=>(cases a;cases b;exact⟨λg d=>f g (eH d),by rw[bV];omega⟩)|gF k=>cases a
theorem aic{cols:List bu}(d:∀b∈cols,b.2<=2):∀{e:Ex},cL cols e=.inl p->p<=2
 |.num _,h=>by cases h;simp
 |.str _,h=>by cases h;simp
 |.bool _,h=>by cases h;simp
 |.junk,h=>by cases h;simp
 |.col s a,h=>by
   simp only[cL]at h;split at h
   . rename_i b f;cases h;exact d b (jV f)
   . cases h
 |.j8 no a x,h=>by
   simp only[cL]at h;split at h
   . cases h
   . cases h;simp
 |.neg a x,h=>by rw[(uX.2.2 h).2];simp
 |.not a x,h=>by
   simp only[cL]at h;split at h
   . cases h
   . split at h
     . cases h;simp
     . cases h
 |.two op a x y,h=>by
   obtain⟨_,_,_,_,c,_⟩:=Ag h;rw[c];split<;>simp
theorem XJ{cols:List bu}(f:∀a∈cols,a.2<=2):∀{d:List Cb} {l nc:List bu},(∀c∈d,Nm8 c.1.1)->(∀a∈l,Nm8 a.1/\a.2<=2)->gS cols d l=.inr nc->∀a∈nc,Nm8 a.1/\a.2<=2
 |[],l,nc,_,hl,h=>by cases h;exact hl
 |c::d,l,nc,hr,hl,h=>by
   simp only[gS]at h;split at h
   . cases h
   . split at h
     . cases h
     . rename_i m g
       refine XJ f (λk j=>hr k (cz _ j)) (λa b=>?_) h;rcases bn.mp b with b|b
       . exact hl a b
       . rw[a6.mp b];exact⟨hr c (dw ..),aic f g⟩
theorem RD{cols nc:List bu}{b:Ar}(f:qg b)(c:mS cols)(a:lj cols b=.inr nc):mS nc:=by cases b with|gK e j=>simp only[lj]at a;split at a;{cases a;exact c};cases a|mapA n=>(exact⟨by rw[vP a];exact f.2.1,XJ (λd a=>(c.2 d a).2) (λk g=>(f.2.2 k g).2.2) (λd a=>by cases a) a⟩)|kh m=>cases a;exact c|gF j=>cases a
def jU(n:Int)(pl:Nat)(rows:Int)(e q:Int):Int×Int:=if e≠0 then(e,q)else if n - rows<0 then(10,pl)else(0,0)
theorem CV{w:ω}{a:Int}(b:Nat)(rows e q:Int)(n:w.heap[p]?=σ (ξ #[ι κ a] t (0,0)))(u:-100000<=a/\a<=100000)(v:e=0->q=0/\0<=rows/\rows<=100000) :
 Calls prog 93 #[π (σ ⟨p,0,ν⟩),χ #[ι κ b,ι κ rows,ι κ e,ι κ q]] w λm w'=>∃f,m=.returned (χ #[ι κ f.1,ι κ f.2])/\f=jU a b rows e q/\(f.1=0->w'.heap[p]?=σ (ξ #[ι κ (a - rows)] t (0,0)))/\aY (λd=>d<w.heap.size/\d≠p) w w':=by
 by_cases g:e=0
 .subst g;obtain⟨rfl,x⟩:=v rfl;refine(Z8 b rows n u x).mono ?_;rintro m w' ⟨y,z,A⟩;refine⟨jU a b rows 0 0,?_,rfl,λ_=>z,A⟩;rw[y];have r:jU a b rows 0 0=if a - rows<0 then(10,(b:Int))else(0,0):=aE (by simp)
  rw[r];by_cases j:a - rows<0;{rw[aF j,aF j]};rw[aE j,aE j]
 refine(Vt b rows e q n (by simpa using g)).mono ?_;rintro m w' ⟨rfl,c⟩;exact⟨(e,q),rfl,by unfold jU;rw[aF g],λk=>absurd k g,⟨c.os,c.tape,c.output,c.size,λd k=>c.block d k.1⟩⟩
def MK(W:Nat ⊕ List (List aB))(R2:List (List aB))(rows e q:Int):Prop:=(∀p,W=.inl p->e=9/\q=(p:Int))/\∀R',W=.inr R'->e=0/\q=0/\rows=(R'.length:Int)/\R2=R'
theorem MK.bound{W:Nat ⊕ List (List aB)}{R2:List (List aB)}{rows e q:Int}(a:MK W R2 rows e q)(c:∀R',W=.inr R'->R'.length<=64):e=0->q=0/\0<=rows/\rows<=100000:=λg=>by
 cases hW:W with
 |inl d=>have:=(a.1 d hW).1;omega
 |inr R'=>obtain⟨-,b,f,-⟩:=a.2 R' hW;have:=c R' hW;exact⟨b,by omega,by omega⟩
theorem aea{left:Int}{cs nc:List bu}{b R2:List (List aB)}{ss:List mK}{i:Nat}{s:mK}{rows e q:Int}(k:ss[i]?=σ s)(j:lj cs s.2=.inr nc)(a:MK (oq cs b s.2) R2 rows e q) :
 ((jU left s.1 rows e q).1≠0->∃g:Nat×Nat,jU left s.1 rows e q=((g.1:Int),(g.2:Int))/\pL left cs b (ss.drop i)=.inl g)/\((jU left s.1 rows e q).1=0->jU left s.1 rows e q=(0,0)/\oq cs b s.2=.inr R2/\rows=(R2.length:Int)/\0<=left - R2.length/\pL left cs b (ss.drop i)=pL (left - R2.length) nc R2 (ss.drop (i+1))):=by
 rw[aac k];cases hW:oq cs b s.2 with
 |inl d=>obtain⟨rfl,rfl⟩:=a.1 d hW;have f:jU left s.1 rows 9 d=(9,(d:Int)):=aF (by decide);rw[f];exact⟨λ_=>⟨(9,d),rfl,rfl⟩,λa=>absurd a (by simp)⟩
 |inr R'=>
  obtain⟨rfl,rfl,rfl,rfl⟩:=a.2 R' hW;have f:jU left s.1 R2.length 0 0=if left - (R2.length:Int)<0 then(10,(s.1:Int))else(0,0):=aE (by simp)
  rw[f];by_cases c:left - (R2.length:Int)<0;{rw[aF c];exact⟨λ_=>⟨(10,s.1),rfl,by simp only[if_pos c]⟩,λa=>absurd a (by simp)⟩};rw[aE c];exact⟨λa=>absurd rfl a,λ_=>⟨rfl,rfl,rfl,by omega,by simp only[if_neg c,j]⟩⟩
theorem ML{bud pl:Nat}{cs:List bu}{S:List (List aB)}{ss:List mK}:((jU bud pl S.length 0 0).1≠0->∃b:Nat×Nat,jU bud pl S.length 0 0=((b.1:Int),(b.2:Int))/\ng bud pl cs S ss=.inl b)/\((jU bud pl S.length 0 0).1=0->jU bud pl S.length 0 0=(0,0)/\0<=(bud:Int) - S.length/\ng bud pl cs S ss=pL ((bud:Int) - S.length) cs S (ss.drop 0)):=by
 have d:jU bud pl S.length 0 0=if(bud:Int) - (S.length:Int)<0 then(10,(pl:Int))else(0,0):=aE (by simp)
 rw[d];unfold ng;by_cases a:(bud:Int) - (S.length:Int)<0;{rw[aF a,aF a];exact⟨λ_=>⟨(10,pl),rfl,rfl⟩,λc=>absurd c (by simp)⟩};rw[aE a,aE a];exact⟨λc=>absurd rfl c,λ_=>⟨rfl,by omega,rfl⟩⟩
structure OQ (W0 W:ω)(L B:Nat)(va:Option Addr)(cap:Nat)(fT:List LG)(l:List MF)(cs:List bu)(R':List (List aB))(left:Int)(kv bv:υ):Prop where
 keep:aY (λb=>b<W0.heap.size/\b≠L) W0 W
 lt:W0.heap.size<=B
 bl:W.heap[L]?=σ (ξ #[ι κ left] 206 (0,0))
 bo:W.heap[B]?=σ (obJ kv bv)
 hc:oo (λb=>b<W0.heap.size\/b=B) W kv cs
 hb:jC (λb=>b<W0.heap.size\/b=B) W bv R'
 sv:∀x∈l,W0.heap.size<=x.1.p/\W.heap[x.1.p]?=σ (CM x.1.wv x.2)
 row:W.ownsRow W0.heap.size 216 1 (ψ va fT.length cap) fT.length (fT.map JJ)
 ln:l.map (·.1)=fT
section
variable {W0 W W':ω} {L B:Nat} {va:Option Addr} {cap:Nat} {fT:List LG} {l:List MF} {cs cs':List bu} {R' R2:List (List aB)} {left MN:Int} {kv bv kv' bv':υ}
theorem OQ.on(z:L<W0.heap.size)(a:OQ W0 W L B va cap fT l cs R' left kv bv)(c:aY (λb=>b<W.heap.size/\b≠L/\b≠B) W W')(n:W'.heap[L]?=σ (ξ #[ι κ MN] 206 (0,0)))(p:W'.heap[B]?=σ (obJ kv' bv'))(r:oo (λb=>b<W0.heap.size\/b=B) W' kv' cs')(t:jC (λb=>b<W0.heap.size\/b=B) W' bv' R2):OQ W0 W' L B va cap fT l cs' R2 MN kv' bv':=by have y:=a.lt;refine⟨a.keep.trans ⟨c.os,c.tape,c.output,c.size,λb j=>c.block b ⟨ai j.1 a.keep.size,j.2,by omega⟩⟩,a.lt,n,p,r,t,λv u=>?_,fC a.row (λf g=>c.block f ⟨(a.row.lt f g).2,by have:=(a.row.lt f g).1;omega,λe=>?_⟩),a.ln⟩;{obtain⟨m,d⟩:=a.sv v u;exact⟨m,(c.block _ ⟨ay d,by omega,λe=>by rw[e,a.bo]at d;cases d⟩).trans d⟩};subst e;obtain⟨x,k⟩:=qL a.row g;rw[a.bo]at k;cases k
theorem OQ.hold(m:L<W0.heap.size)(k:OQ W0 W L B va cap fT l cs R' left kv bv)(c:aY (λa=>a<W.heap.size/\a≠L/\a≠B) W W'):oo (λa=>a<W0.heap.size\/a=B) W' kv cs/\jC (λa=>a<W0.heap.size\/a=B) W' bv R':=
 ⟨λf g j=>k.hc f (ag c.size g) (λa d b=>(j a (ai d c.size) b).trans (c.block a ⟨d,λe=>b (.inl (by omega)),λe=>b (.inr e)⟩)),λf g j=>k.hb f (ag c.size g) (λa d b=>(j a (ai d c.size) b).trans (c.block a ⟨d,λe=>b (.inl (by omega)),λe=>b (.inr e)⟩))⟩
theorem OQ.pay(f:L<W0.heap.size)(b:OQ W0 W L B va cap fT l cs R' left kv bv)(c:aY (λa=>a<W.heap.size/\a≠L) W W')(j:W'.heap[L]?=σ (ξ #[ι κ MN] 206 (0,0))):OQ W0 W' L B va cap fT l cs R' MN kv bv:=by have d:aY (λa=>a<W.heap.size/\a≠L/\a≠B) W W':=⟨c.os,c.tape,c.output,c.size,λa g=>c.block a ⟨g.1,g.2.1⟩⟩;have:=b.lt;exact b.on f d j ((c.block B ⟨ay b.bo,by omega⟩).trans b.bo) (b.hold f d).1 (b.hold f d).2
theorem OQ.below(d:L<W0.heap.size)(b:OQ W0 W L B va cap fT l cs R' left kv bv)(a:δ W.heap.size W W'):OQ W0 W' L B va cap fT l cs R' left kv bv:=
 b.pay d ⟨a.os,a.tape,a.output,a.size,λc f=>a.block c f.1⟩ (wK a _ _ b.bl)
theorem OQ.write(m:L<W0.heap.size)(c:OQ W0 W L B va cap fT l cs R' left kv bv)(b:δ W.heap.size W n)(d:aY (λa=>a<W.heap.size/\a≠B) n W')(p:n.heap.size<=W'.heap.size)(g:W'.heap[B]?=σ (obJ kv' bv'))(j:oo (λa=>a<W0.heap.size\/a=B) W' kv' cs')(k:jC (λa=>a<W0.heap.size\/a=B) W' bv' R2):OQ W0 W' L B va cap fT l cs' R2 left kv' bv':=by have:=c.lt;exact c.on m ⟨d.os.trans b.os,d.tape.trans b.tape,d.output.trans b.output,ag b.size p,λa f=>(d.block a ⟨f.1,f.2.2⟩).trans (b.block a f.1)⟩ ((d.block L ⟨ay c.bl,by omega⟩).trans ((b.block L (ay c.bl)).trans c.bl)) g j k
end
theorem oo.grow{w w':ω}{cols:List bu}(b:oo v w m cols)(c:δ w.heap.size w w'):oo (λa=>v a\/w.heap.size<=a) w' m cols:=λW g j=>b W (ag c.size g) (λa d f=>(j a (ai d c.size) (λb=>b.elim f (by omega))).trans (c.block a d))
theorem oo.sub{M':Nat->Prop}{w:ω}{cols:List bu}(b:oo v w m cols)(j:∀a,M' a->v a):oo M' w m cols:=λW f g=>b W f (λa c d=>g a c (λb=>d (j a b)))
theorem OQ.start{W0 wc:ω}{L:Nat}{va:Option Addr}{cap:Nat}{fT:List LG}{l:List MF}{cs:List bu}{R':List (List aB)}{left:Int}{kv bv:υ}(A:L<W0.heap.size)(j:wG W0 wc cs (ψ va fT.length cap) fT)(E:W0.heap[L]?=σ (ξ #[ι κ left] 206 (0,0)))(g:aY (λa=>a<wc.heap.size/\∀b∈fT,a≠b.p) wc n)(H:yV n l)(t:l.map (·.1)=fT)(D:∀p:Nat->Prop,(∀a,p a->a<wc.heap.size)->oo p n kv cs/\jC p n bv (bh cs.length R')):OQ W0 (n.alloc (obJ kv bv)) L n.heap.size va cap fT l cs (bh cs.length R') left kv bv:=by have d:=j.uk;have c:=lH n (obJ kv bv);have u:∀a,a<wc.heap.size->(∀b∈fT,a≠b.p)->(n.alloc (obJ kv bv)).heap[a]?=wc.heap[a]?:=λa f r=>(c.block a (ai f g.size)).trans (g.block a ⟨f,r⟩);have v:∀a,a<W0.heap.size->(n.alloc (obJ kv bv)).heap[a]?=W0.heap[a]?:=λa f=>(u a (ai f d.size) (λb k=>by have:=(j.ok.low b k).1;omega)).trans (d.block a f);obtain⟨f,r⟩:=D (λa=>a<W0.heap.size) (λa e=>by have:=d.size;omega);refine⟨⟨c.os.trans (g.os.trans d.os),c.tape.trans (g.tape.trans d.tape),c.output.trans (g.output.trans d.output),ag d.size (ag g.size c.size),λa m=>v a m.1⟩,ag d.size g.size,(v L A).trans E,ak _ _,(f.grow c).sub (λa m=>m.imp id (λe=>by omega)),(r.moves c.size (λa z _=>c.block a z)).sub (λa m=>m.imp id (λe=>by omega)),λb k=>?_,fC j.row (λx y=>u x (j.row.lt x y).2 (λb k e=>?_)),t⟩;{have G:b.1∈fT:=(by rw[<- t];exact mT k);exact⟨(j.ok.low _ G).1,wK c _ _ (H b k).1⟩};subst e;obtain⟨I,C⟩:=qL j.row y;have:=(j.lies (b,(0,0,0)) (cI.mpr ⟨b,k,rfl⟩)).1;dsimp only at this;rw[C]at this;cases this
structure QGo (Q:(Nat×Nat) ⊕ (List bu×List (List aB)))(ss:List mK)(i:Nat)(l:List MF)(cs:List bu)(R R':List (List aB))(left:Int):Prop where
 run:Q=pL left cs R (ss.drop i)
 chk:gw cs (ss.drop i)=(0,0)
 few:mS cs
 n:Au cs
 fit:fH cs R
 len:R.length<=64
 pos:0<=left
 top:left<=4096
 chain:qu cs (l.drop i) R R'
section
variable {Q:(Nat×Nat) ⊕ (List bu×List (List aB))} {ss:List mK} {i:Nat} {l:List MF} {cs nc:List bu} {R R' R2 R3:List (List aB)} {left:Int} {s:mK} {rows e q:Int}
theorem QGo.step(a:QGo Q ss i l cs R R' left)(k:ss[i]?=σ s)(f:qg s.2)(c:lj cs s.2=.inr nc)(x:MK (oq cs R s.2) R2 rows e q)(z:oq cs R s.2=.inr R2->qu nc (l.drop (i+1)) R2 R3) :
 ((jU left s.1 rows e q).1≠0->∃g:Nat×Nat,jU left s.1 rows e q=((g.1:Int),(g.2:Int))/\Q=.inl g)/\((jU left s.1 rows e q).1=0->jU left s.1 rows e q=(0,0)/\oq cs R s.2=.inr R2/\QGo Q ss (i+1) l nc R2 R3 (left - rows)):=by obtain⟨r,t⟩:=aea (left:=left) k c x;refine⟨λu=>?_,λy=>?_⟩;{obtain⟨g,d,b⟩:=r u;exact⟨g,d,by rw[a.run,b]⟩};obtain⟨d,b,n,A,p⟩:=t y;obtain⟨C,j,m⟩:=CU k a.chk;rw[c]at j;cases j;have v:=JT f c a.fit b;have:=a.len;have:=a.top;exact⟨d,b,⟨by rw[a.run,p,n],m,RD f a.few c,D9 f a.n c,v.1,by omega,by omega,by omega,z b⟩⟩
theorem aid{w w':ω}{p:Nat ⊕ List (List aB)}{z:Ending}(a:XF v w w' nc p z)(E:0<nc.length):∃f k c2 d j g m n,∃(b:List (List aB)) (c:List aB) (R2:List (List aB)),z=.returned (.tuple #[χ #[ψ f k c2,ψ d j g],χ #[ι κ m,ι κ n]])/\δ w.heap.size w w'/\oo v w' (ψ f k c2) nc/\jC v w' (ψ d j g) b/\b[0]?=σ c/\MK p R2 c.length m n/\(p=.inr R2->b=bh nc.length R2):=by obtain⟨f,k,c2,d,j,g,m,n,t,u,x,⟨b,M,A⟩,C,D⟩:=a;cases hW:p with|inl N=>(obtain⟨c,G⟩:∃c,b[0]?=σ c:=⟨_,af (by omega)⟩;exact⟨f,k,c2,d,j,g,m,n,b,c,[],t,u,x,A,G,⟨λy r=>C y (by rw[hW];exact r),λR' a=>(by cases a)⟩,λa=>(by cases a)⟩)|inr R2=>obtain⟨H,I,K⟩:=D R2 hW;exact⟨f,k,c2,d,j,g,m,n,_,_,R2,t,u,x,K,ig E,⟨λy r=>(by cases r),λR' a=>by cases a;exact⟨H,I,by simp,rfl⟩⟩,λ_=>rfl⟩
theorem QGo.out(a:QGo Q ss i l cs R R' left)(c:qg s.2)(d:lj cs s.2=.inr nc):∀R2,oq cs R s.2=.inr R2->R2.length<=64:=λR2 b=>by
 have:=(JT c d a.fit b).2;have:=a.len;omega
theorem QGo.aq2(f:QGo Q ss i l cs R R' left)(t:ss[i]?=σ s){b:MF}(r:l[i]?=σ b)(d:s.2=.gK b.1.e p):∃c,lj cs s.2=.inr cs/\MK (oq cs R s.2) c b.2.1 b.2.2.1 b.2.2.2/\qu cs (l.drop (i+1)) c R':=by obtain⟨m,n⟩:=aj.mp r;have j:=f.chain;rw[cE m,n]at j;obtain⟨c,c1,c2,c3⟩:=j;obtain⟨nc,a,-⟩:=CU t f.chk;refine⟨c,?_,?_,c3⟩;{rw[a];rw[d]at a;simp only[lj]at a;split at a;{cases a;rfl};cases a};rw[d];unfold wY at c1;refine⟨λv k=>?_,λu g=>?_⟩;{simp only[oq]at k;rw[k]at c1;exact⟨by rw[c1.1];rfl,by rw[c1.2]⟩};simp only[oq]at g;rw[g]at c1;obtain⟨rfl,c4⟩:=c1;rw[c4];exact⟨rfl,rfl,rfl,rfl⟩
theorem QGo.bare(a:QGo Q ss i l cs R R' left)(b:l.length<=i):R'=R:=by have:=a.chain;rw[lz b]at this;exact this
theorem aec{fT:List LG}(g:fT.map (·.e)=(kK ss).take fT.length){d:LG}(c:fT[i]?=σ d):∃p b,ss[i]?=σ (p,.gK d.e b):=by
 have f:=(aj.mp c).1;have a:((kK ss).take fT.length)[i]?=σ d.e:=by rw[<- g,aU,c];rfl
 rw[List.getElem?_take_of_lt f]at a;clear g c f;induction ss generalizing i with|nil=>simp[kK]at a|cons s t k=>obtain⟨n,j⟩:=s;cases j with|gK e b=>(cases i with|zero=>(simp[kK]at a;exact⟨n,b,by rw[<- a];rfl⟩)|succ i=>simp[kK]at a;exact k a)|mapA r=>simp[kK]at a|kh m=>simp[kK]at a|gF m=>simp[kK]at a
end
structure uZ (o:uS)(w:ω)(q:Nat)(shv wv:υ)(cols:List bu)(sh:List Nat)(F:List aB->dm)(Cs:List (List (List aB))):Prop where
 tab:∃cv sv n vs,w.heap[q]?=σ (obN cv sv n)/\eT w cv cols/\bz w 1 sv Cs.length vs/\qK w cols vs Cs
 work:∃a lo,dX a lo wv (iy cols) F/\gq lo a.heap.size a w
 shr:ia w shv sh
 chk:oe o.seg Cs
 few:Cs.flatten.length<=64
 c0:0<cols.length
 c5:cols.length<=5
 shl:∀s∈sh,s<cols.length
 s0:0<sh.length
 s5:sh.length<=5
 bool:∀row,iy cols row->∀c,F row=.inl c->rI c
 ok:∀row∈Cs.flatten,iy cols row
section
variable {o:uS} {w w':ω} {q:Nat} {shv wv:υ} {cols:List bu} {sh:List Nat} {F:List aB->dm} {Cs:List (List (List aB))}
theorem uZ.below(a:uZ o w q shv wv cols sh F Cs)(b:δ w.heap.size w w'):uZ o w' q shv wv cols sh F Cs:=by obtain⟨n,z,y,C,p,r,t,c⟩:=a.tab;obtain⟨d,x,u,v⟩:=a.work;exact⟨⟨n,z,y,C,wK b _ _ p,r.below b (ae _),bz.below t b (ae _),⟨c.1,λi A m f g=>by obtain⟨ss,j,k⟩:=c.2 i A m f g;exact⟨ss,bz.below j b (ae _),k⟩⟩⟩,⟨d,x,u,v.below b⟩,bz.below a.shr b (ae _),a.chk,a.few,a.c0,a.c5,a.shl,a.s0,a.s5,a.bool,a.ok⟩
theorem uZ.fn(d:uZ o w q shv wv cols sh F Cs):(∃b a,wv=.func (.func b) #[] a)/\∃c a,shv=ψ c sh.length a:=by obtain⟨c,g,f,-⟩:=d.work;obtain⟨b,a,rfl,-⟩:=f;exact⟨⟨b,a,rfl⟩,bz.slice d.shr⟩
theorem uZ.XK(a:uZ o w q shv wv cols sh F Cs):Calls prog 69 #[χ #[π (σ (Ad q 0)),shv,wv]] w λm w'=>∃c f b,m=.returned (ψ c f b)/\eT w' (ψ c f b) (sh.map λs=>cols.getD s default)/\δ w.heap.size w w':=by obtain⟨p,u,t,x,g,j,-,-⟩:=a.tab;obtain⟨⟨r,b,rfl⟩,-⟩:=a.fn;refine(FZ g j a.shr a.shl (by have:=a.s5;omega)).mono ?_;rintro _ w' ⟨v,rfl,d,k⟩;obtain⟨n,c1,rfl,-,-⟩:=cu d;exact⟨_,_,_,rfl,by have:=bz.fM d;unfold eT;rw[aR];exact this,k⟩
theorem uZ.read(a:uZ o w q shv wv cols sh F Cs)(p:δ w.heap.size w w'){fT:List LG}(c:wG w w' (sh.map λs=>cols.getD s default) m fT)(u:fT.length<=300):Calls prog 92 #[χ #[π (σ (Ad q 0)),shv,wv],.agg (QR o).toArray,m] w' λe z=>Rw w' z (sh.map λs=>cols.getD s default) fT (kR F sh Cs.flatten) e:=by obtain⟨D,K,H,M,g,j,k,n⟩:=a.tab;obtain⟨A,G,x,y⟩:=a.work;refine ad0 o g j k n a.chk a.few a.c0 a.c5 a.shr a.shl a.s0 a.s5 x y a.bool a.ok p c.ok (bz.fM c.row) (λC I c1 d t=>?_) c.lies u;obtain⟨f,v,e⟩:=t;rcases c.row.2 with⟨b,-⟩|⟨E,cap,cur,b,-,r,-⟩;{rw[d]at b;cases b};rw[d]at b;cases b;have:=(c.lies (f,(0,0,0)) (cI.mpr ⟨f,v,rfl⟩)).1;dsimp only at e this;rw[<- e,r]at this;cases this
end
def XL(cols:List bu):GZ:=⟨λv _ _ X=>∃a m c,v=ψ a m c/\eT X (ψ a m c) cols,λ_ _ _ _ _ ⟨a,m,c,h1,h2⟩ hb=>⟨a,m,c,h1,h2.below hb (ae _)⟩⟩
def am5(W:ω)(cols:List bu)(es:List Ex):GZ:=⟨λv _ _ X=>∃a c,∃fT:List LG,v=ψ a fT.length c/\wG W X cols (ψ a fT.length c) fT/\fT.map (·.e)=es,λ_ _ _ _ _ ⟨a,c,fT,h1,h2,h3⟩ hb=>⟨a,c,fT,h1,h2.below hb,h3⟩⟩
def aed(w w':ω)(Q:(Nat×Nat) ⊕ (List bu×List (List aB)))(e:Ending):Prop:=δ w.heap.size w w'/\(∀f,Q=.inl f->e=.returned (.tuple #[χ #[ψ ν 0 0,ψ ν 0 0],χ #[ι κ f.1,ι κ f.2]]))/\∀x,Q=.inr x->∃a2 m2 c2 a1 m1 c1,e=.returned (.tuple #[χ #[ψ a2 m2 c2,ψ a1 m1 c1],χ #[ι κ 0,ι κ 0]])/\(∀M:Nat->Prop,(∀b,M b->b<w.heap.size)->oo M w' (ψ a2 m2 c2) x.1/\jC M w' (ψ a1 m1 c1) (bh x.1.length x.2))/\mS x.1/\0<x.1.length/\fH x.1 x.2/\x.2.length<=64
theorem am6(w:ω)(b c f g k m:Obj):∃W,W=(((((w.alloc b).alloc c).alloc f).alloc g).alloc k).alloc m/\W.heap.size=w.heap.size+6/\δ w.heap.size w W/\W.heap[w.heap.size]?=σ b/\W.heap[w.heap.size+1]?=σ c/\W.heap[w.heap.size+2]?=σ f/\W.heap[w.heap.size+3]?=σ g/\W.heap[w.heap.size+4]?=σ k/\W.heap[w.heap.size+5]?=σ m:=by have j:=gT w b c;have d:=gT ((w.alloc b).alloc c) f g;have a:=gT ((((w.alloc b).alloc c).alloc f).alloc g) k m;rw[show((w.alloc b).alloc c).heap.size=w.heap.size+2 from by simp]at d;rw[show((((w.alloc b).alloc c).alloc f).alloc g).heap.size=w.heap.size+4 from by simp]at a;exact⟨_,rfl,by simp,j.1.trans ((d.1.trans (a.1.mono (by omega))).mono (by omega)),(a.1.block _ (by omega)).trans ((d.1.block _ (by omega)).trans j.2.2),(a.1.block _ (by omega)).trans ((d.1.block _ (by omega)).trans j.2.1),(a.1.block _ (by omega)).trans d.2.2,(a.1.block _ (by omega)).trans d.2.1,a.2.2,a.2.1⟩
theorem Fo{B:Nat}{I K M:υ}{H:TypeId}(D:u.heap[p]?=σ (ξ #[m,I] t (0,0)))(E:u.heap[r]?=σ (ξ #[K,M] H (0,0)))(G:δ B n u)(y:B<=p)(z:B<=r)(v:p≠r)(d f g j:υ):∃b,b=(((u.setCell (Ad p 0) d).setCell (Ad p 1) f).setCell (Ad r 0) g).setCell (Ad r 1) j/\(b.cell? (Ad p 0)=σ d/\b.cell? (Ad p 1)=σ f)/\(b.cell? (Ad r 0)=σ g/\b.cell? (Ad r 1)=σ j)/\δ B n b/\(∀a,a≠p->a≠r->b.heap[a]?=u.heap[a]?)/\u.heap.size<=b.heap.size:=by have k:∀a,a≠r->((((u.setCell (Ad p 0) d).setCell (Ad p 1) f).setCell (Ad r 0) g).setCell (Ad r 1) j).heap[a]?=((u.setCell (Ad p 0) d).setCell (Ad p 1) f).heap[a]?:=λa c=>(az _ _ _ _ c).trans (az _ _ _ _ c);have x:∀a,a≠p->((u.setCell (Ad p 0) d).setCell (Ad p 1) f).heap[a]?=u.heap[a]?:=λa c=>(az _ _ _ _ c).trans (az _ _ _ _ c);exact⟨_,rfl,aS ((k p v).trans (tY D)),aS (tY ((x r v.symm).trans E)),(((G.setCell y _).setCell y _).setCell z _).setCell z _,λa A C=>(k a C).trans (x a A),by simp[World.setCell]⟩
theorem aee{o:uS}{w:ω}{q:Nat}{shv wv d3:υ}{cols:List bu}{sh:List Nat}{F:List aB->dm}{Cs:List (List (List aB))}{ss:List mK}{pl tp:Nat}{t:ByteArray}(hv:uZ o w q shv wv cols sh F Cs)(jh:vQ w d3 ss)(v:∀s∈ss,qg s.2)(ey:ss.length<=300)(MH:gw (sh.map λs=>cols.getD s default) ss=(0,0))(xK:mS (sh.map λs=>cols.getD s default))(wP:fH (sh.map λs=>cols.getD s default) (kR F sh Cs.flatten)) :
 Calls prog 70 #[χ #[ι κ pl,θ t,ι κ tp,d3],χ #[π (σ ⟨q,0,ν⟩),shv,wv],.agg (QR o).toArray] w λe w'=>aed w w' (ng o.bud pl (sh.map λs=>cols.getD s default) (kR F sh Cs.flatten) ss) e:=by
 obtain⟨cr,cv,rfl⟩:=jh.slice;obtain⟨⟨fn,b7,rfl⟩,Jp,cp,rfl⟩:=hv.fn;obtain⟨P,Tj⟩:=nm (sh.map λs=>cols.getD s default);have JK:P.length=sh.length:=by rw[Tj,aR]
 have EH:=au (λc (b:δ w.heap.size w c)=>(hv.below b).XK);have RE:=au (λW c (h0:δ w.heap.size w W) (b:δ W.heap.size W c) fT eA (D:wG W c (sh.map λs=>cols.getD s default) eA fT) M=>(hv.below h0).read b D M);have hn:Au P:=by unfold Au;rw[JK];have:=hv.s0;have:=hv.s5;omega
 rw[<- Tj]at MH xK wP EH RE ⊢;have KT:=au (λc (b:δ w.heap.size w c) ca cm cc (hc:eT c (ψ ca cm cc) P)=>G5 (pl:=pl) (tp:=tp) (t:=t) (jh.below b (ae _)) v ey hc hn MH);obtain⟨S,j⟩:=nm (kR F sh Cs.flatten);have er:S.length<=64:=by rw[j];exact ag (xe _ _ _) hv.few
 rw[<- j]at wP RE ⊢;obtain⟨W0,A8,lU,ny,e0,e1,e2,e3,e4,e5⟩:=am6 w (obK pl t tp cr ss.length cv) (Pt (π (σ ⟨q,0,ν⟩)) Jp sh.length cp (.func (.func fn) #[] b7)) (obV o.seg o.pk o.wd o.prune o.push o.bud) (xG ν 0 0 ν 0 0) (iQ 0 0) (ξ #[ι κ o.bud] 206);have Tq:=au A8;unfold QR at RE ⊢;go_in;refine wp_seq_k λK1 Tp=>?_;have sJ:=au Tp;clear Tp;go_wp2_with fail;refine sJ.J _ _ ?_;clear sJ K1;refine wp_seq_k λK1 Tp=>?_;have sJ:=au Tp;clear Tp;go_wp2_with fail;refine sJ.J _ _ ?_;clear sJ K1;rw[<- Tq.J];refine wp_seq_k λK1 Tp=>?_;have sJ:=au Tp;clear Tp;go_wp2_with fail;refine sJ.J _ _ ?_;clear sJ K1;refine wp_seq_k λK2 YA=>?_;have EP:prog.follows .mixedOrders=true:=by kernel_rfl
 have U:=au (λc (b:aY (λa=>a<W0.heap.size/\a≠w.heap.size+5) W0 c)=>(show(c.cell? ⟨w.heap.size,0,ν⟩=σ (ι κ pl)/\c.cell? ⟨w.heap.size,1,ν⟩=σ (θ t)/\c.cell? ⟨w.heap.size,2,ν⟩=σ (ι κ tp)/\c.cell? ⟨w.heap.size,3,ν⟩=σ (ψ cr ss.length cv))/\(c.cell? ⟨w.heap.size+1,0,ν⟩=σ (π (σ ⟨q,0,ν⟩))/\c.cell? ⟨w.heap.size+1,1,ν⟩=σ (ψ Jp sh.length cp)/\c.cell? ⟨w.heap.size+1,2,ν⟩=σ (.func (.func fn) #[] b7))/\c.heap[w.heap.size+2]?=σ (obV o.seg o.pk o.wd o.prune o.push o.bud)/\c.heap[w.heap.size+3]?=σ (xG ν 0 0 ν 0 0)/\c.heap[w.heap.size+4]?=σ (iQ 0 0)/\δ w.heap.size w c from by
  have u:∀a,a<w.heap.size+5->c.heap[a]?=W0.heap[a]?:=λa a1=>b.block a ⟨by omega,by omega⟩;exact⟨kJ ((u _ (by omega)).trans e0),bf ((u _ (by omega)).trans e1),(u _ (by omega)).trans e2,(u _ (by omega)).trans e3,(u _ (by omega)).trans e4,⟨b.os.trans ny.os,b.tape.trans ny.tape,b.output.trans ny.output,ag ny.size b.size,λa r=>(u a (by omega)).trans (ny.block a r)⟩⟩))
 have Om:=au e5;have Cr:=au ny;have cQ:w.heap.size+5<W0.heap.size:=by omega
 have uG:=au jh;have HF:=au v;have d5:=au MH;have eg:=au xK;have La:=au wP;have HN:=au hn;have a5:Hid (∀c,δ W0.heap.size W0 c->aY (λa=>a<W0.heap.size/\a≠w.heap.size+5) W0 c):=au λc b=>⟨b.os,b.tape,b.output,b.size,λa r=>b.block a r.1⟩;obtain⟨⟨y0,y1,y2,y3⟩,⟨y4,y5,y6⟩,T,-⟩:=U.J W0 (aY.refl _ _);have y8:W0.cell? ⟨w.heap.size+1+1,4,ν⟩=σ (.bool o.push):=cell0 T 4;clear e0 e1 e2 e3 e4 e5 ny jh v MH xK wP hn hv Tj j A8 T lU;go_cut[9]from 19 to 24 (λev wx=>∃va cap,∃fT:List LG,ev=ψ va fT.length cap/\Hid (wG W0 wx P (ψ va fT.length cap) fT)/\Hid (fT.map (·.e)=(kK ss).take fT.length))
 (case first=>have ex:o.push=true\/o.push=false:=(by cases o.push<;>simp);rcases ex with a0|a0;{rw[a0]at y8;clear a0;go_wp2_with fail;refine rX (n:=4) (m:=1) (z:=95) [.is (χ #[ι κ pl,θ t,ι κ tp,ψ cr ss.length cv]),.is (χ #[π (σ ⟨q,0,ν⟩),ψ Jp sh.length cp,.func (.func fn) #[] b7]),XL P,am5 W0 P (kK ss)] EP rfl (by kernel_rfl) ⟨⟨⟨⟨trivial,?_⟩,?_⟩,?s2⟩,?s3⟩ ?fin;(case s2=>refineλρ lo hi c r ⟨v,(a1:ρ (.tmp 22)=_),_⟩=>fO rfl v call69 (by simp[a1]) (EH.J c (Cr.J.trans (((aH (ah _ _)).trans r).mono Cr.J.size))) ?_;rintro _ C ⟨a2,m2,c2,rfl,Md,K⟩;exact⟨_,rfl,⟨_,_,_,rfl,Md⟩,K⟩);(case s3=>refineλρ lo hi c r ⟨v,(a1:ρ (.tmp 21)=_),⟨a2,m2,c2,(a3:ρ (.tmp 23)=_),Md⟩,_⟩=>fO rfl v call91 (by simp[a1,a3]) (KT.J c (Cr.J.trans (((aH (ah _ _)).trans r).mono Cr.J.size)) a2 m2 c2 Md) ?_;rintro _ C ⟨fc,fT,rfl,GD,PS⟩;obtain⟨a4,c4,rfl,-,-⟩:=cu GD.row;exact⟨_,rfl,⟨_,_,fT,rfl,GD.from ((aH (ah _ _)).trans r),PS⟩,GD.uk⟩);(case fin=>intro val e9 e7 c r hv _;obtain⟨va,vc,fT,v3,GD,PS⟩:=(hv 3 (by decide)).1;clear hv;simp[nH,iH,Act.put,v3];refine nS (i:=4) (by kernel_rfl) rfl (by rfl) (fV (w':=c) (by go_simp;with_reducible rfl) (qQ (by kernel_rfl) ?_ _));simp[Act.put];go_wp2_with fail;go_meet;exact⟨_,_,fT,rfl,au GD,au (by rw[PS,<- aR (f:=(·.e)),PS,eU])⟩);all_goals refineλρ lo hi c r ⟨(a1:ρ _=_),_⟩=>fV (w':=c) ?_ ⟨rfl,ah _ _⟩;obtain⟨⟨z0,z1,z2,z3⟩,⟨z4,z5,z6⟩,-⟩:=U.J c (a5.J c ((aH (ah _ _)).trans r));go_simp};rw[a0]at y8;clear a0;go_wp2_with fail;go_meet;exact⟨ν,0,[],rfl,au (wG.nil W0 P),au rfl⟩);case rest=>
  obtain⟨va,cap,fT,rfl,aq,Y9⟩:=hcut;obtain⟨L,hL⟩:=nm (w.heap.size+5);obtain⟨R7,bi⟩:=nm (w.heap.size+4);obtain⟨R6,bg⟩:=nm (w.heap.size+3);obtain⟨Bo,bd⟩:=nm (w.heap.size+2);obtain⟨Bv,be⟩:=nm (w.heap.size+1);rw[show w.heap.size+1+1+1+1+1=L from hL.symm,show w.heap.size+1+1+1+1=R7 from bi.symm,show w.heap.size+1+1+1=R6 from bg.symm,show w.heap.size+1+1=Bo from bd.symm,show w.heap.size+1=Bv from be.symm];rw[<- hL]at Om cQ;rw[<- hL]at U a5;rw[<- bd,<- be,<- bg,<- bi]at U;have eb:Hid (fT.length<=300):=au (by
   have D:=a7 List.length Y9.J;rw[aR,bV]at D;have M:=(Ec (ss:=ss) (ae _)).2.2;omega)
  have p:Hid (w.heap.size+5=L/\w.heap.size+4=R7/\w.heap.size+3=R6/\w.heap.size+2=Bo/\w.heap.size+1=Bv):=au ⟨hL.symm,bi.symm,bg.symm,bd.symm,be.symm⟩;clear y0 y1 y2 y3 y4 y5 y6 y8 EH KT hL bi bg bd be;refine YA _ _ ?_;clear YA K2;obtain⟨⟨y0,y1,y2,y3⟩,⟨y4,y5,y6⟩,T,-⟩:=U.J wc (a5.J wc aq.J.uk);have p0:=cell0 T 0;have p1:=cell0 T 1;have p2:=cell0 T 2;have p3:=cell0 T 3;have p4:=cell0 T 4;have p5:=cell0 T 5;simp only[List.getElem?_toArray,List.getElem?_cons_zero,List.getElem?_cons_succ]at p0 p1 p2 p3 p4 p5;clear T;go_wp2_with fail;refine(RE.J W0 wc Cr.J aq.J.uk fT _ aq.J eb.J).mono ?_;rintro _ G ⟨ka,km,kc,ba,bm,bc,l,R',rfl,hh,vN,Dj,Bb,Py⟩;obtain⟨W3,LD⟩:=nm (G.alloc (xG ka km kc ba bm bc));have f:=OQ.start cQ aq.J Om.J Py Dj Bb hh;rw[<- LD]at f;have dg:=CV pl S.length 0 0 f.bl ⟨by omega,by have:=o.b4;omega⟩ (λ_=>⟨rfl,by omega,by omega⟩);clear y0 y1 y2 y3 y4 y5 y6 p0 p1 p2 p3 p4 p5;have K:w.heap.size<G.heap.size:=by have:=f.lt;have:=p.J.1;omega
  obtain⟨⟨cx,-⟩,-⟩:=U.J W3 f.keep;have y0:G.cell? ⟨w.heap.size,0,ν⟩=σ (ι κ pl):=by rw[LD]at cx;exact((lH G _).cell (p:=⟨w.heap.size,0,ν⟩) K).symm.trans cx
  clear cx;have DL:=au LD;have HQ:=au f;have TB:=au dg;have cB:=au vN;clear hh vN Dj Bb Py LD f dg RE aq Om a5;go_wp2_with fail;rw[<- DL.J];refine TB.J.mono ?_;rintro _ w4 ⟨u,rfl,v,Gv,yv⟩;have NJ:=HQ.J.keep.trans (c:=w4) ⟨yv.os,yv.tape,yv.output,yv.size,λa b=>yv.block a ⟨ai b.1 HQ.J.keep.size,b.2⟩⟩;have KQ:=au NJ;have c0:=au Gv;have Xh:=au yv;have X:=au v;clear v Gv yv NJ TB y0;go_wp2_with fail;refine(K9 _ _ _).mono ?_;rintro _ w5 ⟨rfl,zn⟩;have LI:=Ve (lH w4 _) zn;have Aw:w5.heap[w4.heap.size]?=σ (iQ u.1 u.2):=wK zn _ _ (ak w4 _);clear zn;by_cases O:u.1=0
  .obtain⟨e1,e2,e3⟩:=(ML (bud:=o.bud) (pl:=pl) (cs:=P) (S:=S) (ss:=ss)).2 (by rw[<- X.J];exact O);have Gv:=c0.J O;rw[<- X.J]at e1;subst e1;have cb:=(HQ.J.pay cQ Xh.J Gv).below cQ LI;have c9:QGo (ng o.bud pl P S ss) ss 0 l P S R' ((o.bud:Int) - S.length):=⟨e3,by rw[oN];exact d5.J,eg.J,HN.J,La.J,er,e2,by have:=o.b4;omega,by rw[oN];exact cB.J⟩;obtain⟨⟨-,-,-,y3⟩,-⟩:=U.J w5 cb.keep;have d8:=au cb;have d7:=au c9;clear O Gv e2 e3 cb c9 LI Aw KQ c0 Xh X HQ cB DL;go_wp2_with fail;clear y3;go_loopw[44] (λiv wr=>∃(i:Nat) (cs:List bu) (R R':List (List aB)) (left:Int) (ka:Option Addr) (km kc:Nat) (ba:Option Addr) (bm bc:Nat),i<=ss.length/\iv=ι κ i/\Hid (OQ W0 wr L G.heap.size va cap fT l cs (bh cs.length R') left (ψ ka km kc) (ψ ba bm bc))/\Hid (QGo (ng o.bud pl P S ss) ss i l cs R R' left)) (λiv _=>ss.length - (intOf iv).toNat);(case atStart=>exact⟨0,_,_,_,_,_,_,_,_,_,_,aI _,rfl,d8,d7⟩);case round=>
    obtain⟨i,cs,R,R',left,ka,km,kc,ba,bm,bc,hi,rfl,Y,Uy⟩:=hrel;by_cases vx:i<ss.length
    .have jY:(i:Int)<ss.length:=(by omega);have f:=Y.J;have g:=Uy.J;obtain⟨s,V⟩:∃s,ss[i]?=σ s:=⟨_,af vx⟩;obtain⟨-,-,-,-,-,lQ⟩:=U.J wr f.keep;obtain⟨sg,so,Ji,av,he,s0,s1,ME⟩:=(uG.J.below lQ (ae _)).get V;cases he;obtain⟨te,b3,rfl⟩:=MD ME;obtain⟨nc,BJ,MH⟩:=CU V g.chk;have Z:=HF.J s (aA V);obtain⟨W2,rW⟩:=nm ((wr.alloc (agp s.1 (.iface te b3))).alloc (obY s.1 0 0 0));obtain⟨K,oz,A1⟩:=gT wr (agp s.1 (.iface te b3)) (obY s.1 0 0 0);rw[<- rW]at K oz A1;have dd:=f.below cQ K;have eK:G.heap.size<wr.heap.size:=ay f.bo;by_cases Pu:i<fT.length;(case' pos=>have el:(i:Int)<fT.length:=(by omega);obtain⟨d,hx⟩:∃d,l[i]?=σ d:=⟨_,af (by rw[<- f.ln,aR]at Pu;exact Pu)⟩;have dS:fT[i]?=σ d.1:=(by rw[<- f.ln,aU,hx];rfl);obtain⟨fa,f',cl⟩:=aec Y9.J dS;have DF:s.2=.gK d.1.e f':=(by rw[V]at cl;cases cl;rfl);obtain⟨R2,py,EB,c7⟩:=g.aq2 V hx DF;have a8:=au (g.step V Z py EB (λ_=>c7));have d4:=au (EB.bound (g.out Z py));have cS:=au (And.intro g.pos g.top);have cg:δ wr.heap.size wr W2.drew:=K.trans (aH (ah _ _));have am:W2.drew.heap[wr.heap.size+1]?=σ (obY s.1 0 0 0):=oz;have vG:=au rW;clear dd K oz A1 rW EB c7 py DF cl BJ MH Z ME lQ g V Uy f;go_wp2_with fail;rw[<- vG.J];refine wp_region_noPanic ?_;have cn:=Y.J.below cQ cg;obtain⟨e8,bw⟩:=cn.sv d (aA hx);obtain⟨vg,vo,dG,he,-,-,dN⟩:=(bz.fM cn.row).at (by omega);cases he;have t0:=dN i (JJ d.1) (by rw[aU,dS];rfl);refine sR (S:=λc=>c.cell? ⟨vg,vo+i,ν⟩=σ (π (σ ⟨d.1.p,0,ν⟩))/\c.cell? ⟨d.1.p,1,ν⟩=σ (ι κ d.2.1)/\c.cell? ⟨d.1.p,2,ν⟩=σ (ι κ d.2.2.1)/\c.cell? ⟨d.1.p,3,ν⟩=σ (ι κ d.2.2.2)) EP ?_;generalize W2.drew=c at *;have j:c.cell? ⟨vg,vo+i,ν⟩=σ (π (σ ⟨d.1.p,0,ν⟩))/\c.cell? ⟨d.1.p,1,ν⟩=σ (ι κ d.2.1)/\c.cell? ⟨d.1.p,2,ν⟩=σ (ι κ d.2.2.1)/\c.cell? ⟨d.1.p,3,ν⟩=σ (ι κ d.2.2.2):=⟨t0,cell0 bw 1,cell0 bw 2,cell0 bw 3⟩;have n0:vg≠wr.heap.size+1:=(by have:=(Y.J.row.lt vg rfl).2;omega);have n1:d.1.p≠wr.heap.size+1:=(by have:=ay (Y.J.sv d (aA hx)).2;omega);have n2:=n0.symm;have n3:=n1.symm;obtain⟨k0,k1,k2,k3⟩:=kJ am;have z1:=fP am 1;have z2:=fP am 2;have z3:=fP am 3;have cN:=au am;have c8:=au cg;clear am cg cn bw dN t0;refine lB (i:=0) rfl (by kernel_rfl) (λ_ _ _ b=>b) (by rintro A ⟨m,n,H,I⟩;go_simp;with_reducible rfl) j ?_;refine lB (i:=1) rfl (by kernel_rfl) (λ_ _ _ b=>b) (by rintro A ⟨m,n,H,I⟩;go_simp;with_reducible rfl) j ?_;refine lB (i:=2) rfl (by kernel_rfl) (λ_ _ _ b=>b) (by rintro A ⟨m,n,H,I⟩;go_simp;with_reducible rfl) j ?_;refine lB (i:=3) rfl (by kernel_rfl) (λ_ _ _ b=>b) (by rintro A ⟨m,n,H,I⟩;go_simp;with_reducible rfl) j ?_;refine lB (i:=4) rfl (by kernel_rfl) (λ_ _ _ b=>b) (by rintro A ⟨m,n,H,I⟩;go_simp;with_reducible rfl) j ?_;refine lB (i:=5) rfl (by kernel_rfl) (λ_ _ _ b=>b) (by rintro A ⟨m,n,H,I⟩;go_simp;with_reducible rfl) j ?_;refine lB (i:=6) rfl (by kernel_rfl) (λ_ _ _ b=>b) (by rintro A ⟨m,n,H,I⟩;go_simp;with_reducible rfl) j ?_;refine lB (i:=7) rfl (by kernel_rfl) (λ_ _ _ b=>b) (by rintro A ⟨m,n,H,I⟩;go_simp;with_reducible rfl) j ?_;refine lB (i:=8) rfl (by kernel_rfl) (λ_ _ _ b=>b) (by rintro A ⟨m,n,H,I⟩;go_simp;with_reducible rfl) j ?_;refine lB (i:=9) rfl (by kernel_rfl) (λ_ _ _ b=>b) (by rintro A ⟨m,n,H,I⟩;go_simp;with_reducible rfl) j ?_;refine lB (i:=10) rfl (by kernel_rfl) (λ_ _ _ b=>b) (by rintro A ⟨m,n,H,I⟩;go_simp;with_reducible rfl) j ?_;refine lB (i:=11) rfl (by kernel_rfl) (λ_ _ _ b=>b) (by rintro A ⟨m,n,H,I⟩;go_simp;with_reducible rfl) j ?_;refine lB (i:=12) rfl (by kernel_rfl) (λ_ _ _ b=>b) (by rintro A ⟨m,n,H,I⟩;go_simp;with_reducible rfl) j ?_;refine lB (i:=13) rfl (by kernel_rfl) (λ_ _ _ b=>b) (by rintro A ⟨m,n,H,I⟩;go_simp;with_reducible rfl) j ?_;obtain⟨m,n,H,I⟩:=j;refine rJ (i:=14) (by kernel_rfl) rfl (by rfl) ?_;unfold jB;simp only[Act.put];go_simp;refine rJ (i:=15) (by kernel_rfl) rfl (by rfl) ?_;unfold jB;go_simp;refine rJ (i:=16) (by kernel_rfl) rfl (by rfl) ?_;unfold jB;go_simp;refine rJ (i:=17) (by kernel_rfl) rfl (by rfl) ?_;unfold jB;go_simp;refine wpAnyH_done (by kernel_rfl) (NoPanic.normal ?_) _;obtain⟨N,E⟩:=nm (((c.setCell ⟨wr.heap.size+1,1,ν⟩ (ι κ d.2.1)).setCell ⟨wr.heap.size+1,2,ν⟩ (ι κ d.2.2.1)).setCell ⟨wr.heap.size+1,3,ν⟩ (ι κ d.2.2.2));rw[<- E];have ab:δ wr.heap.size wr N:=(by rw[E];exact((c8.J.setCell (bF _) _).setCell (bF _) _).setCell (bF _) _);have dl:N.heap[wr.heap.size+1]?=σ (obY s.1 d.2.1 d.2.2.1 d.2.2.2):=(by rw[E];exact aQ _ _ 3 _ _ _ (aQ _ _ 2 _ _ _ (aQ _ _ 1 _ _ _ cN.J)));obtain⟨v0,v1,v2,v3⟩:=kJ dl;have aa:=Y.J.below cQ ab;have TB:=au (CV s.1 d.2.1 d.2.2.1 d.2.2.2 aa.bl ⟨by have:=cS.J.1;omega,by have:=cS.J.2;omega⟩ d4.J);obtain⟨Lb,b8⟩:=nm (bh cs.length R');rw[<- b8]at aa;have ao:=au aa;have b6:Hid ((jU left s.1 d.2.1 d.2.2.1 d.2.2.2).1=0->Lb=bh cs.length R'):=au λ_=>b8;clear b8;clear E ab dl aa k0 k1 k2 k3 z1 z2 z3 n0 n1 n2 n3 m n H I cN c8;go_wp2_with fail;generalize (d.2.1:Int)=rows at *;generalize (d.2.2.1:Int)=ee at *;generalize (d.2.2.2:Int)=eq at *);case' neg=>
      have el:¬(i:Int)<fT.length:=(by omega);have E2:l.length<=i:=(by rw[<- f.ln,aR]at Pu;omega);obtain rfl:=g.bare E2;obtain⟨b5,hM⟩:=nm (λa=>a<W0.heap.size\/a=G.heap.size\/a=wr.heap.size+1:Nat->Prop);have db:∀a,b5 a->a<W2.heap.size:=λa r=>by rw[hM]at r;have:=ay oz;have:=f.keep.size;omega
      obtain⟨fb,r',fw,he,hm,Pv,yR⟩:=adU (M:=b5) (S:=o.wd) (ME.below K (ae _)) Z db ((f.hc.grow K).sub (λa r=>by rw[hM]at r;omega)) g.n.1 (ag g.n.2 (by decide)) BJ ((f.hb.moves K.size (λa ed _=>K.block a ed)).sub (λa r=>by rw[hM]at r;omega)) g.len (λb3 hr=>OM (g.fit b3 hr)) (by have:=o.w1;omega) (by have:=o.w16;omega);cases he;have em:=(D9 Z g.n BJ).1;obtain⟨q0,q1⟩:=aS f.bo;have T:=cell0 (U.J wr f.keep).2.2.1 2;simp only[List.getElem?_toArray,List.getElem?_cons_zero,List.getElem?_cons_succ]at T;have eB:Bo<wr.heap.size:=(by have:=f.keep.size;have:=p.J;omega);have cA:=au yR;have sJ:=au oz;have jS:=au K;have vG:=au rW;have a9:=au hM;have Vc:=au (And.intro V (And.intro Z BJ));clear yR oz K rW A1 hM db dd ME lQ MH Z BJ f g V;go_wp2_with fail;rw[<- vG.J];refine cA.J.mono ?_;rintro _ w3 dn;obtain⟨a2,m2,c2,a1,m1,c1,ee,eq,Lb,bb,R2,rfl,iw,ds,ck,tP,EB,Zq⟩:=aid dn em;have Ot:=jS.J.trans (iw.mono jS.J.size);have b9:=Y.J.below cQ Ot;have aC:=wK iw _ _ sJ.J;have ar:=b9.bo;obtain⟨C,ad⟩:=nm ((((w3.setCell ⟨G.heap.size,0,ν⟩ (ψ a2 m2 c2)).setCell ⟨G.heap.size,1,ν⟩ (ψ a1 m1 c1)).setCell ⟨wr.heap.size+1,2,ν⟩ (ι κ ee)).setCell ⟨wr.heap.size+1,3,ν⟩ (ι κ eq));have bx:G.heap.size≠wr.heap.size+1:=(by omega);have d1:=bx.symm;have f1:∀a,a≠G.heap.size->a≠wr.heap.size+1->C.heap[a]?=w3.heap[a]?:=λa D M=>by rw[ad];exact(az _ _ _ _ M).trans ((az _ _ _ _ M).trans ((az _ _ _ _ D).trans (az _ _ _ _ D)))
      have ci:C.heap[G.heap.size]?=σ (xG a2 m2 c2 a1 m1 c1):=(by rw[ad];exact(az _ _ _ _ bx).trans ((az _ _ _ _ bx).trans (tY ar)));have ce:C.heap[wr.heap.size+1]?=σ (obY s.1 0 ee eq):=(by rw[ad];exact aQ _ _ 3 _ _ _ (aQ _ _ 2 _ _ _ ((az _ _ _ _ d1).trans ((az _ _ _ _ d1).trans aC))));have al:w3.heap.size<=C.heap.size:=(by rw[ad];simp[World.setCell]);have bo:C.os=w3.os/\C.tape=w3.tape/\C.output=w3.output:=(by rw[ad];exact⟨rfl,rfl,rfl⟩);obtain⟨N,E⟩:=nm (C.setCell ⟨wr.heap.size+1,1,ν⟩ (ι κ bb.length));have fZ:∀a,a≠wr.heap.size+1->N.heap[a]?=C.heap[a]?:=λa b=>by rw[E];exact az _ _ _ _ b
      have an:C.heap.size<=N.heap.size:=(by rw[E];simp[World.setCell]);have bt:N.os=C.os/\N.tape=C.tape/\N.output=C.output:=(by rw[E];exact⟨rfl,rfl,rfl⟩);have en:=ay Y.J.bl;have aa:OQ W0 N L G.heap.size va cap fT l nc Lb left (ψ a2 m2 c2) (ψ a1 m1 c1):=(by have e6:=Y.J.lt;refine Y.J.on cQ ⟨bt.1.trans (bo.1.trans Ot.os),bt.2.1.trans (bo.2.1.trans Ot.tape),bt.2.2.trans (bo.2.2.trans Ot.output),ag Ot.size (ag al an),λa r=>(fZ a (by omega)).trans ((f1 a r.2.2 (by omega)).trans (Ot.block a r.1))⟩ ((fZ L (by omega)).trans ((f1 L (by omega) (by omega)).trans b9.bl)) ((fZ _ bx).trans ci) ?_ ?_;{exactλac D M=>ds ac (ag al (ag an D)) (λa b1 k=>by rw[a9.J]at k;exact(M a (ai b1 (ag al an)) (λb=>k (b.imp id .inl))).trans ((fZ a (λe=>k (.inr (.inr e)))).trans (f1 a (λe=>k (.inr (.inl e))) (λe=>k (.inr (.inr e))))))};exactλac D M=>ck ac (ag al (ag an D)) (λa b1 k=>by rw[a9.J]at k;exact(M a (ai b1 (ag al an)) (λb=>k (b.imp id .inl))).trans ((fZ a (λe=>k (.inr (.inr e)))).trans (f1 a (λe=>k (.inr (.inl e))) (λe=>k (.inr (.inr e)))))));have Di:=au (sQ (ck C al (λa b1 k=>by rw[a9.J]at k;exact f1 a (λe=>k (.inr (.inl e))) (λe=>k (.inr (.inr e))))) tP);obtain⟨V,Z,BJ⟩:=Vc.J;have g:=Uy.J;have jh:=g.step V Z BJ EB (R3:=R2) (λ_=>by rw[lz (by omega)];rfl);have b6:Hid ((jU left s.1 bb.length ee eq).1=0->Lb=bh nc.length R2):=au λb=>Zq (jh.2 b).2.1;have TB:=au (CV s.1 bb.length ee eq aa.bl ⟨by have:=g.pos;omega,by have:=g.top;omega⟩ (EB.bound (g.out Z BJ)));have a8:=au jh;have ao:=au aa;clear q0 q1;obtain⟨q0,q1⟩:=aS ar;have z0:=fP ar 0;have z1:=fP ar 1;obtain⟨k0,k1,k2,k3⟩:=kJ aC;have z2:=fP aC 2;have z3:=fP aC 3;obtain⟨k4,k5,k6,k7⟩:=kJ ce;have z4:=fP ce 1;obtain⟨k8,k9⟩:=aS ci;have c6:=au ad;have HZ:=au E;clear iw ds ck tP EB Zq Ot b9 aC ar ad f1 ci ce al bo E fZ an bt en aa V Z BJ g jh dn T cA sJ a9 Vc;go_wp2_with fail;rw[<- c6.J];refine Di.J.mono ?_;rintro _ _ ⟨rfl,rfl⟩;clear c6;go_wp2_with fail;rw[<- HZ.J];generalize (bb.length:Int)=rows at *
     all_goals
      refine TB.J.mono ?_;rintro _ w6 ⟨u,rfl,v,Gv,MO⟩;have NJ:=ao.J.keep.trans (c:=w6) ⟨MO.os,MO.tape,MO.output,MO.size,λa b=>MO.block a ⟨ai b.1 ao.J.keep.size,b.2⟩⟩;have KQ:=au NJ;have c5:=au Gv;have cG:=au MO;have X:=au v;clear v Gv MO NJ TB;go_wp2_with fail;refine(K9 _ _ _).mono ?_;rintro _ w7 ⟨rfl,cf⟩;have Fp:=Ve (lH w6 _) cf;have cj:w7.heap[w6.heap.size]?=σ (iQ u.1 u.2):=wK cf _ _ (ak w6 _);clear cf;by_cases O:u.1=0;{have co:(jU left s.1 rows ee eq).1=0:=(by rw[<- X.J];exact O);have hp:=c5.J O;obtain⟨d0,-,d2⟩:=a8.J.2 co;have cd:=(ao.J.pay cQ cG.J hp).below cQ Fp;rw[b6.J co]at cd;rw[<- X.J]at d0;subst d0;have d9:=au cd;have d6:=au d2;clear co hp d2 cd Fp cj O ao a8 b6 X cG c5 KQ;go_wp2_with fail;exact⟨⟨i+1,_,_,_,_,_,_,_,_,_,_,vx,by go_num,d9,d6⟩,by simp[intOf];omega⟩}
      have et:(u.1 != 0)=true:=(by simpa using O);obtain⟨x,EX,tR⟩:=a8.J.1 (by rw[<- X.J];exact O);rw[<- X.J]at EX;subst EX;have b4:=au tR;have RF:aY (λa=>a<W0.heap.size/\a≠L) W0 w7.drew:=KQ.J.trans ⟨Fp.os,Fp.tape,Fp.output,Fp.size,λa b=>Fp.block a (ai b.1 KQ.J.size)⟩;have ax:w7.drew.heap[w6.heap.size]?=σ (iQ x.1 x.2):=cj;clear tR Fp cj O;go_wp2_with fail;refine wp_region_noPanic ?_;refine sR (S:=λc=>c.cell? ⟨w6.heap.size,0,ν⟩=σ (ι κ x.1)/\c.cell? ⟨w6.heap.size,1,ν⟩=σ (ι κ x.2)) EP ?_;generalize w7.drew=c at *;have j:=aS ax;obtain⟨-,-,-,y,z,kN⟩:=U.J c RF;obtain⟨f0,f1⟩:=aS y;obtain⟨f2,f3⟩:=aS z;have z0:=fP y 0;have z1:=fP y 1;have z2:=fP z 0;have z3:=fP z 1;have fy:R6≠R7:=(by have:=p.J;omega);have n6:w6.heap.size≠R6:=λe=>by have:=KQ.J.size;have:=p.J;omega
      have n7:w6.heap.size≠R7:=λe=>by have:=KQ.J.size;have:=p.J;omega
      have ap:=au (Fo y z kN (by have:=p.J;omega) (by have:=p.J;omega) fy (ψ ν 0 0) (ψ ν 0 0) (ι κ x.1) (ι κ x.2));clear y z kN ax RF;refine lB (i:=0) rfl (by kernel_rfl) (λ_ _ _ b=>b) (by rintro A ⟨m,n⟩;go_simp;with_reducible rfl) j ?_;refine lB (i:=1) rfl (by kernel_rfl) (λ_ _ _ b=>b) (by rintro A ⟨m,n⟩;go_simp;with_reducible rfl) j ?_;refine rJ (i:=2) (by kernel_rfl) rfl (by rfl) ?_;unfold jB;simp only[Act.put];obtain⟨m,n⟩:=j;go_simp;refine rJ (i:=3) (by kernel_rfl) rfl (by rfl) ?_;unfold jB;go_simp;refine wpAnyH_done (by kernel_rfl) (NoPanic.normal ?_) _;obtain⟨N,E,⟨q0,q1⟩,⟨q2,q3⟩,ab,-,-⟩:=ap.J;rw[<- E];go_wp2_with fail;refine aD (v:=.tuple #[χ #[ψ ν 0 0,ψ ν 0 0],χ #[ι κ x.1,ι κ x.2]]) (by simp[results,results70,go_sem,q0,q1,q2,q3]) rfl ?_;rw[b4.J];exact⟨ab,λu v=>by cases v;rfl,λd hx=>by cases hx⟩
    obtain rfl:i=ss.length:=(by omega);have f:=Y.J;have g:=Uy.J;have dI:l.length<=ss.length:=(by have D:=a7 List.length Y9.J;rw[aR,bV,<- f.ln,aR]at D;have M:=(Ec (ss:=ss) (ae _)).2.2;omega);obtain rfl:=g.bare dI;have ea:Hid (ng o.bud pl P S ss=.inr (cs,R')):=au (by rw[g.run,gB];rfl);obtain⟨-,-,-,y,z,kN⟩:=U.J wr f.keep;obtain⟨f0,f1⟩:=aS y;obtain⟨f2,f3⟩:=aS z;obtain⟨b0,b1⟩:=aS f.bo;have z0:=fP y 0;have z1:=fP y 1;have z2:=fP z 0;have z3:=fP z 1;have fy:R6≠R7:=(by have:=p.J;omega);have n6:G.heap.size≠R6:=(by have:=f.lt;have:=p.J;omega);have n7:G.heap.size≠R7:=(by have:=f.lt;have:=p.J;omega);have ap:=au (Fo y z kN (by have:=p.J;omega) (by have:=p.J;omega) fy (ψ ka km kc) (ψ ba bm bc) (ι κ 0) (ι κ 0));clear y z kN f g dI;go_wp2_with fail;obtain⟨N,E,⟨q0,q1⟩,⟨q2,q3⟩,ab,es,bl⟩:=ap.J;rw[<- E];refine aD (v:=.tuple #[χ #[ψ ka km kc,ψ ba bm bc],χ #[ι κ 0,ι κ 0]]) (by simp[results,results70,go_sem,q0,q1,q2,q3]) rfl ?_;rw[ea.J];refine⟨ab,λu v=>(by cases v),λd hx=>?_⟩;cases hx;have f:=Y.J;have g:=Uy.J;have hk:∀a,a<wr.heap.size->¬(a<W0.heap.size\/a=G.heap.size)->N.heap[a]?=wr.heap[a]?:=λa _ b=>es a (by have:=p.J;omega) (by have:=p.J;omega);have hW:w.heap.size<W0.heap.size:=(by have:=p.J;omega);refine⟨_,_,_,_,_,_,rfl,λb5 hM=>⟨λac D M=>f.hc ac (ag bl D) (λa b1 k=>(M a (ai b1 bl) (λhm=>k (.inl (by have:=hM a hm;omega)))).trans (hk a b1 k)),λac D M=>f.hb ac (ag bl D) (λa b1 k=>(M a (ai b1 bl) (λhm=>k (.inl (by have:=hM a hm;omega)))).trans (hk a b1 k))⟩,g.few,g.n.1,g.fit,g.len⟩
  have et:(u.1 != 0)=true:=by simpa using O
  obtain⟨x,EX,tR⟩:=(ML (bud:=o.bud) (pl:=pl) (cs:=P) (S:=S) (ss:=ss)).1 (by rw[<- X.J];exact O);rw[<- X.J]at EX;subst EX;have b4:=au tR;have RF:aY (λa=>a<W0.heap.size/\a≠L) W0 w5.drew:=KQ.J.trans ⟨LI.os,LI.tape,LI.output,LI.size,λa b=>LI.block a (ai b.1 KQ.J.size)⟩;have ax:w5.drew.heap[w4.heap.size]?=σ (iQ x.1 x.2):=Aw;clear tR LI Aw O;go_wp2_with fail;refine wp_region_noPanic ?_;refine sR (S:=λc=>c.cell? ⟨w4.heap.size,0,ν⟩=σ (ι κ x.1)/\c.cell? ⟨w4.heap.size,1,ν⟩=σ (ι κ x.2)) EP ?_;generalize w5.drew=c at *;have j:=aS ax;obtain⟨-,-,-,y,z,kN⟩:=U.J c RF;obtain⟨f0,f1⟩:=aS y;obtain⟨f2,f3⟩:=aS z;have z0:=fP y 0;have z1:=fP y 1;have z2:=fP z 0;have z3:=fP z 1;have fy:R6≠R7:=by have:=p.J;omega
  have n6:w4.heap.size≠R6:=λe=>by have:=KQ.J.size;have:=p.J;omega
  have n7:w4.heap.size≠R7:=λe=>by have:=KQ.J.size;have:=p.J;omega
  have ap:=au (Fo y z kN (by have:=p.J;omega) (by have:=p.J;omega) fy (ψ ν 0 0) (ψ ν 0 0) (ι κ x.1) (ι κ x.2));clear y z kN ax RF;refine lB (i:=0) rfl (by kernel_rfl) (λ_ _ _ b=>b) (by rintro A ⟨m,n⟩;go_simp;with_reducible rfl) j ?_;refine lB (i:=1) rfl (by kernel_rfl) (λ_ _ _ b=>b) (by rintro A ⟨m,n⟩;go_simp;with_reducible rfl) j ?_;refine rJ (i:=2) (by kernel_rfl) rfl (by rfl) ?_;unfold jB;simp only[Act.put];obtain⟨m,n⟩:=j;go_simp;refine rJ (i:=3) (by kernel_rfl) rfl (by rfl) ?_;unfold jB;go_simp;refine wpAnyH_done (by kernel_rfl) (NoPanic.normal ?_) _;obtain⟨N,E,⟨q0,q1⟩,⟨q2,q3⟩,ab,-,-⟩:=ap.J;rw[<- E];go_wp2_with fail;refine aD (v:=.tuple #[χ #[ψ ν 0 0,ψ ν 0 0],χ #[ι κ x.1,ι κ x.2]]) (by simp[results,results70,go_sem,q0,q1,q2,q3]) rfl ?_;rw[b4.J];exact⟨ab,λu v=>by cases v;rfl,λd hx=>by cases hx⟩
theorem yG{cols:List bu}{q:Nat×Nat}:∀{e:Ex},JG e->cL cols e=.inr q->q.1<10/\q.2<=300
 |.num _,_,h=>by cases h
 |.str _,_,h=>by cases h
 |.bool _,_,h=>by cases h
 |.junk,_,h=>by cases h
 |.col s a,p,h=>by
   simp only[cL]at h;split at h
   . cases h
   . cases h;exact⟨by simp,p⟩
 |.j8 no a x,p,h=>by
   simp only[cL]at h;split at h
   . rename_i e b;cases h;exact yG p.2 b
   . cases h
 |.neg a x,p,h=>by
   simp only[cL]at h;split at h
   . rename_i e b;cases h;exact yG p.2 b
   . split at h
     . cases h
     . cases h;exact⟨by simp,p.1⟩
 |.not a x,p,h=>by
   simp only[cL]at h;split at h
   . rename_i e b;cases h;exact yG p.2 b
   . split at h
     . cases h
     . cases h;exact⟨by simp,p.1⟩
 |.two op a x y,p,h=>by
   simp only[cL]at h;split at h
   . rename_i e b;cases h;exact yG p.2.1 b
   . split at h
     . rename_i e f;cases h;exact yG p.2.2 f
     . rename_i d _ _ g _
       by_cases c:d≠g\/(d≠(if pZ op then 0 else 2)/\mh op=false)
       . rw[aF c]at h;cases h;exact⟨by simp,p.1⟩
       . rw[aE c]at h;cases h
theorem ae7{b:Int×Bool}(a:CK p b=.inr r):r=p:=by unfold CK at a;split at a;{cases a};cases a;rfl
theorem eval_at{cols:List bu}{row:List aB}{d:Nat}:∀{e:Ex},JG e->cU cols row e=.inr d->d<=300
 |.num _,_,b=>by cases b
 |.str _,_,b=>by cases b
 |.bool _,_,b=>by cases b
 |.junk,_,b=>by cases b
 |.col s a,_,b=>by cases b
 |.j8 no a x,q,b=>by
   simp only[cU]at b
   cases hx:cU cols row x with
   |inl f=>rw[hx]at b;cases b
   |inr c=>rw[hx]at b;cases b;exact eval_at q.2 hx
 |.not a x,q,b=>by
   simp only[cU]at b
   cases hx:cU cols row x with
   |inl f=>
     rw[hx]at b;simp only[rG,Xu,Jv]at b;split at b
     . cases b
     . cases b
   |inr c=>rw[hx]at b;cases b;exact eval_at q.2 hx
 |.neg a x,q,b=>by
   simp only[cU]at b
   cases hx:cU cols row x with
   |inl f=>
     rw[hx]at b;simp only[rG,Xu,Jv]at b;split at b
     . cases b
     . rw[ae7 b];exact q.1
   |inr c=>rw[hx]at b;cases b;exact eval_at q.2 hx
 |.two op a x y,q,b=>by
   simp only[cU]at b;have st:∀s,ib s (cU cols row x) (cU cols row y)=.inr d->d<=300:=λs b=>by
    unfold ib at b
    cases hx:cU cols row x with
    |inr c=>rw[hx]at b;cases b;exact eval_at q.2.1 hx
    |inl g=>
      rw[hx]at b;simp only at b;split at b
      . cases b
      . cases hy:cU cols row y with
        |inr c=>rw[hy]at b;cases b;exact eval_at q.2.2 hy
        |inl j=>
          rw[hy]at b;simp only at b;split at b
          . cases b
          . split at b
            . cases b
            . cases b
   split at b
   . exact st _ b
   . split at b
     . exact st _ b
     . cases hx:cU cols row x with
       |inr c=>rw[hx]at b;cases b;exact eval_at q.2.1 hx
       |inl g=>
         rw[hx]at b
         cases hy:cU cols row y with
         |inr c=>rw[hy]at b;cases b;exact eval_at q.2.2 hy
         |inl j=>
           rw[hy]at b;simp only[uI]at b;split at b
           . cases b
           . unfold CN at b
             split at b
             . cases b
             . rw[ae7 b];exact q.1
theorem Kf{cols:List bu}{c:Ar}(a:lj cols c=.inl x):x.1≠0:=λb=>by
 cases c with
 |gK e f=>
   simp only[lj]at a;split at a
   . cases a
   . rename_i d;rw[jt a]at d;exact d b
 |mapA j=>exact Bi a b
 |kh g=>cases a
 |gF f=>cases a;simp at b
theorem Kg:∀{ss:List mK} {cols:List bu},(gw cols ss).1=0->gw cols ss=(0,0)
 |[],_,_=>rfl
 |s::l,cols,h=>by
   simp only[gw]at h ⊢;split at h
   . rename_i b a
     exact absurd h (Kf a)
   . exact Kg h
theorem MX:∀{ss:List mK} {left:Int} {cols:List bu} {R:List (List aB)} {a:Nat×Nat},pL left cols R ss=.inl a->a.1≠0
 |[],_,_,_,_,h=>by cases h
 |s::l,left,cols,R,a,h=>by
   simp only[pL]at h;split at h
   . cases h;simp
   . split at h
     . cases h;simp
     . split at h
       . rename_i c b;cases h;exact Kf b
       . exact MX h
theorem vT{bud pl:Nat}{cols:List bu}{S:List (List aB)}{ss:List mK}(a:ng bud pl cols S ss=.inl x):x.1≠0:=by unfold ng at a;split at a;{cases a;simp};exact MX a
def Kh:Ar->Prop
 |.gK e pl=>JG e/\pl<=300
 |.mapA rs=>∀r∈rs,r.1.2<=300/\JG r.2.1
 |.kh _=>True
 |.gF pl=>pl<=300
theorem ae8{cols:List bu}{q:Nat×Nat}:∀{b:List Cb} {l:List bu},(∀a∈b,a.1.2<=300/\JG a.2.1)->gS cols b l=.inl q->q.1<10/\q.2<=300
 |[],_,_,h=>by cases h
 |a::b,l,p,h=>by
   simp only[gS]at h;split at h
   . cases h;exact⟨by simp,(p a (by simp)).1⟩
   . split at h
     . rename_i g c;cases h;exact yG (p a (by simp)).2 c
     . exact ae8 (λf d=>p f (by simp[d])) h
theorem Ya{cols:List bu}{c:Ar}(b:Kh c)(a:lj cols c=.inl x):x.1<10/\x.2<=300:=by cases c with|gK e f=>(simp only[lj]at a;split at a;{cases a};cases a;unfold pj;split;{rename_i x d;exact yG b.1 d};split;{exact⟨by simp,b.2⟩};exact⟨by simp,by simp⟩)|mapA j=>exact ae8 b a|kh g=>cases a|gF f=>cases a;exact⟨by simp,b⟩
theorem Pa{f g:Type}{c:f->Nat ⊕ g}{d:Nat}:∀{l:List f},(∀b q,c b=.inl q->q<=300)->dL c l=.inl d->d<=300
 |[],_,h=>by cases h
 |b::l,k,h=>by
   simp only[dL]at h;split at h
   . rename_i q a;cases h;exact k _ _ a
   . split at h
     . rename_i q a;cases h;exact Pa k a
     . cases h
theorem Yb{o:dm}(a:qN o=.inl p):o=.inr p:=by cases o with|inl b=>cases a|inr q=>cases a;rfl
theorem aiE{cols:List bu}{R:List (List aB)}{d:Ar}{q:Nat}(k:Kh d)(a:oq cols R d=.inl q):q<=300:=by
 cases d with
 |gK e u=>simp only[oq,j6]at a;split at a;{rename_i b n;cases a;exact Pa (λrow g c=>eval_at k.1 (Yb c)) n};cases a
 |mapA m=>
  simp only[oq]at a;refine Pa (λrow g c=>?_) a;unfold pB at c;have t:∀l:List Cb,(∀b∈l,b∈m)->dL (λb:Cb=>qN (cU cols row b.2.1)) l=.inl g->g<=300:=λl=>by
   induction l with
   |nil=>exactλ_ a=>by cases a
   |cons b l r=>
     intro j a;simp only[dL]at a;split at a
     . rename_i v f;cases a;exact eval_at (k b (j b (by simp))).2 (Yb f)
     . split at a
       . rename_i v f;cases a;exact r (λx p=>j x (by simp[p])) f
       . cases a
  exact t m (λ_ a=>a) c
 |kh y=>cases a
 |gF u=>cases a
theorem Sn:∀{ss:List mK} {cols:List bu},(∀s∈ss,Kh s.2)->(gw cols ss).1<10/\(gw cols ss).2<=300
 |[],_,_=>⟨by simp[gw],by simp[gw]⟩
 |s::l,cols,p=>by
   simp only[gw];split
   . rename_i d a;exact Ya (p s (by simp)) a
   . exact Sn (λc b=>p c (by simp[b]))
theorem ae9:∀{ss:List mK} {left:Int} {cols:List bu} {R:List (List aB)} {a:Nat×Nat},(∀s∈ss,s.1<=300/\Kh s.2)->pL left cols R ss=.inl a->a.1<=10/\a.2<=300
 |[],_,_,_,_,_,h=>by cases h
 |s::l,left,cols,R,a,p,h=>by
   simp only[pL]at h;split at h
   . rename_i q c;cases h;exact⟨by simp,aiE (p s (by simp)).2 c⟩
   . split at h
     . cases h;exact⟨by simp,(p s (by simp)).1⟩
     . split at h
       . rename_i g b;cases h;have:=Ya (p s (by simp)).2 b;exact⟨by omega,this.2⟩
       . exact ae9 (λf d=>p f (by simp[d])) h
theorem afa{ss:List mK}{cols:List bu}{R:List (List aB)}(c:∀s∈ss,s.1<=300/\Kh s.2)(b:r<=300)(a:ng p r cols R ss=.inl x):x.1<=10/\x.2<=300:=by unfold ng at a;split at a;{cases a;exact⟨by simp,b⟩};exact ae9 c a
theorem Ia:∀{ss:List mK} {left:Int} {cols:List bu} {R:List (List aB)} {a:List bu×List (List aB)},(∀s∈ss,qg s.2)->mS cols->0<cols.length->fH cols R->R.length<=64->pL left cols R ss=.inr a->mS a.1/\0<a.1.length/\fH a.1 a.2/\a.2.length<=64
 |[],_,_,_,_,_,h1,h2,h3,h4,h=>by cases h;exact⟨h1,h2,h3,h4⟩
 |s::l,left,cols,R,a,p,h1,h2,h3,h4,h=>by
   simp only[pL]at h;split at h
   . cases h
   . rename_i R2 f
     split at h
     . cases h
     . split at h
       . cases h
       . rename_i k b
         have c:=p s (by simp);have d:=JT c b h3 f;exact Ia (λj g=>p j (by simp[g])) (RD c h1 b) (D9 c ⟨h2,h1.1⟩ b).1 d.1 (ag d.2 h4) h
