import Derived.Test.YtcoaphfimellcaaGreatDoorQBG
import Derived.Test.YtcoaphfimellcaaGreatDoorQBH
import Derived.Test.YtcoaphfimellcaaGreatDoorQBJ
set_option maxHeartbeats 0
set_option maxRecDepth 100000
namespace Go.Proofs.YtcoaphfimellcaaGreatDoor
open Go.RowKit
open _root_.Go.Proofs.Tryz
open Option renaming some→σ,none→ν
open Go.IntKind renaming i64→κ
open Go.Ending renaming returned→τ
open Go.Obj renaming cells→ξ
open Go renaming World→ω,Value→υ
open Go.RowKit renaming Below→δ
open Go.Value renaming int→ι,string→θ,slice→ψ,pointer→π,agg→χ
variable{p t k:Nat}{m:Nat×Nat}{x:υ}{v:Nat->Prop}{n u:ω}{r:TypeId}
def sS(left:Int)(cols:List br)(R:List (List aD)):List mo->(Nat×Nat) ⊕ (List br×List (List aD))
 |[]=>.inr (cols,R)
 |s::l=>match oI cols R s.2 with
   |.inl p=>.inl (9,p)
   |.inr R2=>if left - R2.length<0 then .inl (10,s.1)else match lf cols s.2 with
     |.inl g=>.inl g
     |.inr c=>sS (left - R2.length) c R2 l
def kh(bud pl:Nat)(cols:List br)(S:List (List aD))(ss:List mo):(Nat×Nat) ⊕ (List br×List (List aD)):=if(bud:Int) - S.length<0 then .inl (10,pl)else sS ((bud:Int) - S.length) cols S ss
theorem XF{left:Int}{cols:List br}{R:List (List aD)}{ss:List mo}{i:Nat}{s:mo}(d:ss[i]?=σ s):sS left cols R (ss.drop i)=match oI cols R s.2 with
 |.inl g=>.inl (9,g)
 |.inr R2=>if left - R2.length<0 then .inl (10,s.1)else match lf cols s.2 with
   |.inl c=>.inl c
   |.inr a=>sS (left - R2.length) a R2 (ss.drop (i+1)):=by
 obtain⟨b,f⟩:=aj.mp d;rw[cA b,f];rfl
theorem BR{cols:List br}{ss:List mo}{i:Nat}{s:mo}(j:ss[i]?=σ s)(b:gC cols (ss.drop i)=(0,0)):∃nc,lf cols s.2=.inr nc/\gC nc (ss.drop (i+1))=(0,0):=by
 obtain⟨f,k⟩:=aj.mp j;rw[cA f,k]at b;simp only[gC]at b;split at b
 .rename_i n a
  exfalso;subst b
  cases hs:s.2 with
  |gB e m=>
    rw[hs]at a;simp only[lf]at a;split at a
    . cases a
    . rename_i c;rw[lX a]at c;exact c rfl
  |mapA r=>rw[hs]at a;exact Af a rfl
  |lA p=>rw[hs]at a;cases a
  |fJ m=>rw[hs]at a;cases a
 rename_i d g;exact⟨d,g,b⟩
theorem Po{cols:List br}{row:List aD}(f:BD cols row):∀{c:List A8} {l nc:List br} {out:List aD},(∀a∈c,pz a.2.1/\zj a.2.1/\a.1.1.size<=8)->fU cols c l=.inr nc->oN cols c row=.inr out->∃m:List br,nc=l++m/\BD m out
 |[],l,nc,out,_,h1,h2=>by cases h1;cases h2;exact⟨[],by simp,rfl,λb n k t=>by simp at t⟩
 |a::c,l,nc,out,hf,h1,h2=>by
   simp only[fU]at h1;split at h1
   . cases h1
   . split at h1
     . cases h1
     . rename_i k u
       unfold oN at h2;simp only[dG]at h2
       cases he:cU cols row a.2.1 with
       |inr D=>rw[he]at h2;simp[qN]at h2
       |inl n=>
         rw[he]at h2;simp only[qN]at h2;split at h2
         . cases h2
         . rename_i C z
           cases h2
           obtain⟨y,r,d⟩:=Po f (λA v=>hf A (cy _ v)) h1 z;refine⟨(a.1.1,k)::y,by rw[r];simp,by simp[d.1],λb p x g j=>?_⟩
           cases b with
           |zero=>cases g;cases j;exact abu f a.2.1 (hf a (dv ..)).1 (hf a (dv ..)).2.1 u he
           |succ b=>exact d.2 b p x (by simpa using g) (by simpa using j)
theorem abL{cols nc:List br}{b:List A8}(j:∀a∈b,pz a.2.1/\zj a.2.1/\a.1.1.size<=8)(k:fU cols b []=.inr nc):∀{R R2:List (List aD)},fB cols R->dG (oN cols b) R=.inr R2->fB nc R2:=λ{R R2} g f a m=>by
 obtain⟨r,n,p⟩:=KP f a m;obtain⟨t,c,d⟩:=Po (g r n) j k p;rw[c];simpa using d
theorem Iz{cols nc:List br}{c:zm}{R R2:List (List aD)}(j:pE c)(a:lf cols c=.inr nc)(f:fB cols R)(b:oI cols R c=.inr R2):fB nc R2/\R2.length<=R.length:=by
 cases c with
 |gB e k=>
   simp only[lf]at a;split at a
   . cases a
     simp only[oI]at b;exact⟨λg d=>f g (by rw[Eb b]at d;exact(eA.mp d).1),CP b⟩
   . cases a
 |mapA n=>exact⟨abL j.2.2 a f b,Nat.le_of_eq (zW b)⟩
 |lA m=>cases a;cases b;exact⟨λg d=>f g (eG d),by rw[bV];omega⟩
 |fJ k=>cases a
theorem afJ{cols:List br}(d:∀b∈cols,b.2<=2):∀{e:Ex},cH cols e=.inl p->p<=2
 |.num _,h=>by cases h;simp
 |.str _,h=>by cases h;simp
 |.bool _,h=>by cases h;simp
 |.junk,h=>by cases h;simp
 |.col s a,h=>by
   simp only[cH]at h;split at h
   . rename_i b f;cases h;exact d b (jo f)
   . cases h
 |.kG no a x,h=>by
   simp only[cH]at h;split at h
   . cases h
   . cases h;simp
 |.neg a x,h=>by rw[(tR.2.2 h).2];simp
 |.not a x,h=>by
   simp only[cH]at h;split at h
   . cases h
   . split at h
     . cases h;simp
     . cases h
 |.two op a x y,h=>by
   obtain⟨_,_,_,_,c,_⟩:=za h;rw[c];split<;>simp
theorem U8{cols:List br}(f:∀a∈cols,a.2<=2):∀{d:List A8} {l nc:List br},(∀c∈d,c.1.1.size<=8)->(∀a∈l,a.1.size<=8/\a.2<=2)->fU cols d l=.inr nc->∀a∈nc,a.1.size<=8/\a.2<=2
 |[],l,nc,_,hl,h=>by cases h;exact hl
 |c::d,l,nc,hr,hl,h=>by
   simp only[fU]at h;split at h
   . cases h
   . split at h
     . cases h
     . rename_i m g
       refine U8 f (λk j=>hr k (cy _ j)) (λa b=>?_) h;rcases bP.mp b with b|b
       . exact hl a b
       . rw[bj.mp b];exact⟨hr c (dv ..),afJ f g⟩
theorem Pp{cols nc:List br}{b:zm}(f:pE b)(c:oq cols)(a:lf cols b=.inr nc):oq nc:=by
 cases b with
 |gB e j=>
   simp only[lf]at a;split at a
   . cases a;exact c
   . cases a
 |mapA n=>exact⟨by rw[uJ a];exact f.2.1,U8 (λd a=>(c.2 d a).2) (λk g=>(f.2.2 k g).2.2) (λd a=>by cases a) a⟩
 |lA m=>cases a;exact c
 |fJ j=>cases a
def jm(n:Int)(pl:Nat)(rows:Int)(e q:Int):Int×Int:=if e≠0 then(e,q)else if n - rows<0 then(10,pl)else(0,0)
theorem BS{w:ω}{a:Int}(b:Nat)(rows e q:Int)(n:w.heap[p]?=σ (ξ #[ι κ a] r (0,0)))(u:-100000<=a/\a<=100000)(v:e=0->q=0/\0<=rows/\rows<=100000) :
 Calls prog 93 #[π (σ ⟨p,0,ν⟩),χ #[ι κ b,ι κ rows,ι κ e,ι κ q]] w λm w'=>∃f,m=τ (χ #[ι κ f.1,ι κ f.2])/\f=jm a b rows e q/\(f.1=0->w'.heap[p]?=σ (ξ #[ι κ (a - rows)] r (0,0)))/\aX (λd=>d<w.heap.size/\d≠p) w w':=by
 by_cases g:e=0
 .subst g;obtain⟨rfl,x⟩:=v rfl;refine(XD b rows n u x).mono ?_;rintro m w' ⟨y,z,A⟩;refine⟨jm a b rows 0 0,?_,rfl,λ_=>z,A⟩;rw[y];have t:jm a b rows 0 0=if a - rows<0 then(10,(b:Int))else(0,0):=aE (by simp)
  rw[t];by_cases j:a - rows<0;{rw[aF j,aF j]};rw[aE j,aE j]
 refine(Td b rows e q n (by simpa using g)).mono ?_;rintro m w' ⟨rfl,c⟩;exact⟨(e,q),rfl,by unfold jm;rw[aF g],λk=>absurd k g,⟨c.os,c.tape,c.output,c.size,λd k=>c.block d k.1⟩⟩
def K9(W:Nat ⊕ List (List aD))(R2:List (List aD))(rows e q:Int):Prop:=(∀p,W=.inl p->e=9/\q=(p:Int))/\∀R',W=.inr R'->e=0/\q=0/\rows=(R'.length:Int)/\R2=R'
theorem K9.bound{W:Nat ⊕ List (List aD)}{R2:List (List aD)}{rows e q:Int}(a:K9 W R2 rows e q)(c:∀R',W=.inr R'->R'.length<=64):e=0->q=0/\0<=rows/\rows<=100000:=λg=>by
 cases hW:W with
 |inl d=>have:=(a.1 d hW).1;omega
 |inr R'=>obtain⟨-,b,f,-⟩:=a.2 R' hW;have:=c R' hW;exact⟨b,by omega,by omega⟩
theorem abM{left:Int}{cs nc:List br}{b R2:List (List aD)}{ss:List mo}{i:Nat}{s:mo}{rows e q:Int}(k:ss[i]?=σ s)(j:lf cs s.2=.inr nc)(a:K9 (oI cs b s.2) R2 rows e q) :
 ((jm left s.1 rows e q).1≠0->∃g:Nat×Nat,jm left s.1 rows e q=((g.1:Int),(g.2:Int))/\sS left cs b (ss.drop i)=.inl g)/\((jm left s.1 rows e q).1=0->jm left s.1 rows e q=(0,0)/\oI cs b s.2=.inr R2/\rows=(R2.length:Int)/\0<=left - R2.length/\sS left cs b (ss.drop i)=sS (left - R2.length) nc R2 (ss.drop (i+1))):=by
 rw[XF k]
 cases hW:oI cs b s.2 with
 |inl d=>
   obtain⟨rfl,rfl⟩:=a.1 d hW;have f:jm left s.1 rows 9 d=(9,(d:Int)):=aF (by decide);rw[f];exact⟨λ_=>⟨(9,d),rfl,rfl⟩,λa=>absurd a (by simp)⟩
 |inr R'=>
   obtain⟨rfl,rfl,rfl,rfl⟩:=a.2 R' hW;have f:jm left s.1 R2.length 0 0=if left - (R2.length:Int)<0 then(10,(s.1:Int))else(0,0):=aE (by simp)
   rw[f];by_cases c:left - (R2.length:Int)<0
   . rw[aF c]
     exact⟨λ_=>⟨(10,s.1),rfl,by simp only[if_pos c]⟩,λa=>absurd a (by simp)⟩
   . rw[aE c]
     exact⟨λa=>absurd rfl a,λ_=>⟨rfl,rfl,rfl,by omega,by simp only[if_neg c,j]⟩⟩
theorem La{bud pl:Nat}{cs:List br}{S:List (List aD)}{ss:List mo}:((jm bud pl S.length 0 0).1≠0->∃b:Nat×Nat,jm bud pl S.length 0 0=((b.1:Int),(b.2:Int))/\kh bud pl cs S ss=.inl b)/\((jm bud pl S.length 0 0).1=0->jm bud pl S.length 0 0=(0,0)/\0<=(bud:Int) - S.length/\kh bud pl cs S ss=sS ((bud:Int) - S.length) cs S (ss.drop 0)):=by
 have d:jm bud pl S.length 0 0=if(bud:Int) - (S.length:Int)<0 then(10,(pl:Int))else(0,0):=aE (by simp)
 rw[d];unfold kh;by_cases a:(bud:Int) - (S.length:Int)<0;{rw[aF a,aF a];exact⟨λ_=>⟨(10,pl),rfl,rfl⟩,λc=>absurd c (by simp)⟩};rw[aE a,aE a];exact⟨λc=>absurd rfl c,λ_=>⟨rfl,by omega,rfl⟩⟩
structure ML (W0 W:ω)(L B:Nat)(va:Option Addr)(cap:Nat)(fg:List J4)(l:List K4)(cs:List br)(R':List (List aD))(left:Int)(kv bv:υ):Prop where
 keep:aX (λb=>b<W0.heap.size/\b≠L) W0 W
 lt:W0.heap.size<=B
 bl:W.heap[L]?=σ (ξ #[ι κ left] 206 (0,0))
 bo:W.heap[B]?=σ (obJ kv bv)
 hc:nN (λb=>b<W0.heap.size\/b=B) W kv cs
 hb:iU (λb=>b<W0.heap.size\/b=B) W bv R'
 sv:∀x∈l,W0.heap.size<=x.1.p/\W.heap[x.1.p]?=σ (BL x.1.wv x.2)
 row:W.ownsRow W0.heap.size 216 1 (ψ va fg.length cap) fg.length (fg.map Io)
 ln:l.map (·.1)=fg
section
variable {W0 W W':ω} {L B:Nat} {va:Option Addr} {cap:Nat} {fg:List J4} {l:List K4} {cs cs':List br} {R' R2:List (List aD)} {left U9:Int} {kv bv kv' bv':υ}
theorem ML.on(z:L<W0.heap.size)(a:ML W0 W L B va cap fg l cs R' left kv bv)(c:aX (λb=>b<W.heap.size/\b≠L/\b≠B) W W')(n:W'.heap[L]?=σ (ξ #[ι κ U9] 206 (0,0)))(p:W'.heap[B]?=σ (obJ kv' bv'))(r:nN (λb=>b<W0.heap.size\/b=B) W' kv' cs')(t:iU (λb=>b<W0.heap.size\/b=B) W' bv' R2):ML W0 W' L B va cap fg l cs' R2 U9 kv' bv':=by have y:=a.lt;refine⟨a.keep.trans ⟨c.os,c.tape,c.output,c.size,λb j=>c.block b ⟨ai j.1 a.keep.size,j.2,by omega⟩⟩,a.lt,n,p,r,t,λv u=>?_,eJ a.row (λf g=>c.block f ⟨(a.row.lt f g).2,by have:=(a.row.lt f g).1;omega,λe=>?_⟩),a.ln⟩;{obtain⟨m,d⟩:=a.sv v u;exact⟨m,(c.block _ ⟨aw d,by omega,λe=>by rw[e,a.bo]at d;cases d⟩).trans d⟩};subst e;obtain⟨x,k⟩:=qk a.row g;rw[a.bo]at k;cases k
theorem ML.hold(m:L<W0.heap.size)(k:ML W0 W L B va cap fg l cs R' left kv bv)(c:aX (λa=>a<W.heap.size/\a≠L/\a≠B) W W'):nN (λa=>a<W0.heap.size\/a=B) W' kv cs/\iU (λa=>a<W0.heap.size\/a=B) W' bv R':=
 ⟨λf g j=>k.hc f (ag c.size g) (λa d b=>(j a (ai d c.size) b).trans (c.block a ⟨d,λe=>b (.inl (by omega)),λe=>b (.inr e)⟩)),λf g j=>k.hb f (ag c.size g) (λa d b=>(j a (ai d c.size) b).trans (c.block a ⟨d,λe=>b (.inl (by omega)),λe=>b (.inr e)⟩))⟩
theorem ML.pay(f:L<W0.heap.size)(b:ML W0 W L B va cap fg l cs R' left kv bv)(c:aX (λa=>a<W.heap.size/\a≠L) W W')(j:W'.heap[L]?=σ (ξ #[ι κ U9] 206 (0,0))):ML W0 W' L B va cap fg l cs R' U9 kv bv:=by have d:aX (λa=>a<W.heap.size/\a≠L/\a≠B) W W':=⟨c.os,c.tape,c.output,c.size,λa g=>c.block a ⟨g.1,g.2.1⟩⟩;have:=b.lt;exact b.on f d j ((c.block B ⟨aw b.bo,by omega⟩).trans b.bo) (b.hold f d).1 (b.hold f d).2
theorem ML.below(d:L<W0.heap.size)(b:ML W0 W L B va cap fg l cs R' left kv bv)(a:δ W.heap.size W W'):ML W0 W' L B va cap fg l cs R' left kv bv:=
 b.pay d ⟨a.os,a.tape,a.output,a.size,λc f=>a.block c f.1⟩ (vA a _ _ b.bl)
theorem ML.write(m:L<W0.heap.size)(c:ML W0 W L B va cap fg l cs R' left kv bv)(b:δ W.heap.size W n)(d:aX (λa=>a<W.heap.size/\a≠B) n W')(p:n.heap.size<=W'.heap.size)(g:W'.heap[B]?=σ (obJ kv' bv'))(j:nN (λa=>a<W0.heap.size\/a=B) W' kv' cs')(k:iU (λa=>a<W0.heap.size\/a=B) W' bv' R2):ML W0 W' L B va cap fg l cs' R2 left kv' bv':=by have:=c.lt;exact c.on m ⟨d.os.trans b.os,d.tape.trans b.tape,d.output.trans b.output,ag b.size p,λa f=>(d.block a ⟨f.1,f.2.2⟩).trans (b.block a f.1)⟩ ((d.block L ⟨aw c.bl,by omega⟩).trans ((b.block L (aw c.bl)).trans c.bl)) g j k
end
theorem nN.grow{w w':ω}{cols:List br}(b:nN v w x cols)(c:δ w.heap.size w w'):nN (λa=>v a\/w.heap.size<=a) w' x cols:=λW g j=>b W (ag c.size g) (λa d f=>(j a (ai d c.size) (λb=>b.elim f (by omega))).trans (c.block a d))
theorem nN.sub{M':Nat->Prop}{w:ω}{cols:List br}(b:nN v w x cols)(j:∀a,M' a->v a):nN M' w x cols:=λW f g=>b W f (λa c d=>g a c (λb=>d (j a b)))
theorem ML.start{W0 wc:ω}{L:Nat}{va:Option Addr}{cap:Nat}{fg:List J4}{l:List K4}{cs:List br}{R':List (List aD)}{left:Int}{kv bv:υ}(A:L<W0.heap.size)(j:vq W0 wc cs (ψ va fg.length cap) fg)(E:W0.heap[L]?=σ (ξ #[ι κ left] 206 (0,0)))(g:aX (λa=>a<wc.heap.size/\∀b∈fg,a≠b.p) wc n)(H:xV n l)(y:l.map (·.1)=fg)(D:∀p:Nat->Prop,(∀a,p a->a<wc.heap.size)->nN p n kv cs/\iU p n bv (bh cs.length R')):ML W0 (n.alloc (obJ kv bv)) L n.heap.size va cap fg l cs (bh cs.length R') left kv bv:=by have d:=j.sX;have c:=ld n (obJ kv bv);have t:∀a,a<wc.heap.size->(∀b∈fg,a≠b.p)->(n.alloc (obJ kv bv)).heap[a]?=wc.heap[a]?:=λa f r=>(c.block a (ai f g.size)).trans (g.block a ⟨f,r⟩);have u:∀a,a<W0.heap.size->(n.alloc (obJ kv bv)).heap[a]?=W0.heap[a]?:=λa f=>(t a (ai f d.size) (λb k=>by have:=(j.ok.low b k).1;omega)).trans (d.block a f);obtain⟨f,r⟩:=D (λa=>a<W0.heap.size) (λa e=>by have:=d.size;omega);refine⟨⟨c.os.trans (g.os.trans d.os),c.tape.trans (g.tape.trans d.tape),c.output.trans (g.output.trans d.output),ag d.size (ag g.size c.size),λa m=>u a m.1⟩,ag d.size g.size,(u L A).trans E,au _ _,(f.grow c).sub (λa m=>m.imp id (λe=>by omega)),(r.moves c.size (λa z _=>c.block a z)).sub (λa m=>m.imp id (λe=>by omega)),λb k=>?_,eJ j.row (λv x=>t v (j.row.lt v x).2 (λb k e=>?_)),y⟩;{have G:b.1∈fg:=(by rw[<- y];exact mr k);exact⟨(j.ok.low _ G).1,vA c _ _ (H b k).1⟩};subst e;obtain⟨I,C⟩:=qk j.row x;have:=(j.lies (b,(0,0,0)) (cE.mpr ⟨b,k,rfl⟩)).1;dsimp only at this;rw[C]at this;cases this
structure QGo (Q:(Nat×Nat) ⊕ (List br×List (List aD)))(ss:List mo)(i:Nat)(l:List K4)(cs:List br)(R R':List (List aD))(left:Int):Prop where
 run:Q=sS left cs R (ss.drop i)
 XG:gC cs (ss.drop i)=(0,0)
 few:oq cs
 n:zn cs
 fit:fB cs R
 len:R.length<=64
 pos:0<=left
 top:left<=4096
 chain:pS cs (l.drop i) R R'
section
variable {Q:(Nat×Nat) ⊕ (List br×List (List aD))} {ss:List mo} {i:Nat} {l:List K4} {cs nc:List br} {R R' R2 R3:List (List aD)} {left:Int} {s:mo} {rows e q:Int}
theorem QGo.step(a:QGo Q ss i l cs R R' left)(k:ss[i]?=σ s)(f:pE s.2)(c:lf cs s.2=.inr nc)(x:K9 (oI cs R s.2) R2 rows e q)(z:oI cs R s.2=.inr R2->pS nc (l.drop (i+1)) R2 R3) :
 ((jm left s.1 rows e q).1≠0->∃g:Nat×Nat,jm left s.1 rows e q=((g.1:Int),(g.2:Int))/\Q=.inl g)/\((jm left s.1 rows e q).1=0->jm left s.1 rows e q=(0,0)/\oI cs R s.2=.inr R2/\QGo Q ss (i+1) l nc R2 R3 (left - rows)):=by obtain⟨r,t⟩:=abM (left:=left) k c x;refine⟨λu=>?_,λy=>?_⟩;{obtain⟨g,d,b⟩:=r u;exact⟨g,d,by rw[a.run,b]⟩};obtain⟨d,b,n,A,p⟩:=t y;obtain⟨C,j,m⟩:=BR k a.XG;rw[c]at j;cases j;have v:=Iz f c a.fit b;have:=a.len;have:=a.top;exact⟨d,b,⟨by rw[a.run,p,n],m,Pp f a.few c,C9 f a.n c,v.1,by omega,by omega,by omega,z b⟩⟩
theorem afK{w w':ω}{r:Nat ⊕ List (List aD)}{A:Ending}(a:U4 v w w' nc r A)(G:0<nc.length):∃f m j d k g n p,∃(b:List (List aD)) (c:List aD) (R2:List (List aD)),A=τ (.tuple #[χ #[ψ f m j,ψ d k g],χ #[ι κ n,ι κ p]])/\δ w.heap.size w w'/\nN v w' (ψ f m j) nc/\iU v w' (ψ d k g) b/\b[0]?=σ c/\K9 r R2 c.length n p/\(r=.inr R2->b=bh nc.length R2):=by
 obtain⟨f,m,j,d,k,g,n,p,u,x,y,⟨b,N,C⟩,D,E⟩:=a
 cases hW:r with
 |inl O=>
   obtain⟨c,H⟩:∃c,b[0]?=σ c:=⟨_,af (by omega)⟩;exact⟨f,m,j,d,k,g,n,p,b,c,[],u,x,y,C,H,⟨λz t=>D z (by rw[hW];exact t),λR' a=>(by cases a)⟩,λa=>(by cases a)⟩
 |inr R2=>
   obtain⟨I,K,M⟩:=E R2 hW;exact⟨f,m,j,d,k,g,n,p,_,_,R2,u,x,y,M,gA G,⟨λz t=>(by cases t),λR' a=>by cases a;exact⟨I,K,by simp,rfl⟩⟩,λ_=>rfl⟩
theorem QGo.out(a:QGo Q ss i l cs R R' left)(c:pE s.2)(d:lf cs s.2=.inr nc):∀R2,oI cs R s.2=.inr R2->R2.length<=64:=λR2 b=>by
 have:=(Iz c d a.fit b).2;have:=a.len;omega
theorem QGo.aor(g:QGo Q ss i l cs R R' left)(x:ss[i]?=σ s){c:K4}(v:l[i]?=σ c)(f:s.2=.gB c.1.e p):∃d,lf cs s.2=.inr cs/\K9 (oI cs R s.2) d c.2.1 c.2.2.1 c.2.2.2/\pS cs (l.drop (i+1)) d R':=by obtain⟨t,u⟩:=aj.mp v;have k:=g.chain;rw[cA t,u]at k;obtain⟨d,b,z,n⟩:=k;obtain⟨nc,a,-⟩:=BR x g.XG;refine⟨d,?_,?_,n⟩;{rw[a];rw[f]at a;simp only[lf]at a;split at a;{cases a;rfl};cases a};rw[f];unfold vT at b;refine⟨λA m=>?_,λy j=>?_⟩;{simp only[oI]at m;rw[m]at b;exact⟨by rw[b.1];rfl,by rw[b.2]⟩};simp only[oI]at j;rw[j]at b;obtain⟨rfl,r⟩:=b;rw[r];exact⟨rfl,rfl,rfl,rfl⟩
theorem QGo.bare(a:QGo Q ss i l cs R R' left)(b:l.length<=i):R'=R:=by have:=a.chain;rw[kP b]at this;exact this
theorem abO{fg:List J4}(g:fg.map (·.e)=(jQ ss).take fg.length){d:J4}(c:fg[i]?=σ d):∃p b,ss[i]?=σ (p,.gB d.e b):=by
 have f:=(aj.mp c).1;have a:((jQ ss).take fg.length)[i]?=σ d.e:=by rw[<- g,aV,c];rfl
 rw[List.getElem?_take_of_lt f]at a;clear g c f
 induction ss generalizing i with
 |nil=>simp[jQ]at a
 |cons s t k=>
   obtain⟨n,j⟩:=s
   cases j with
   |gB e b=>
     cases i with
     |zero=>simp[jQ]at a;exact⟨n,b,by rw[<- a];rfl⟩
     |succ i=>simp[jQ]at a;exact k a
   |mapA r=>simp[jQ]at a
   |lA m=>simp[jQ]at a
   |fJ m=>simp[jQ]at a
end
structure tU (o:sE)(w:ω)(q:Nat)(shv wv:υ)(cols:List br)(sh:List Nat)(F:List aD->dj)(Cs:List (List (List aD))):Prop where
 tab:∃cv sv n vs,w.heap[q]?=σ (obN cv sv n)/\ew w cv cols/\bu w 1 sv Cs.length vs/\qj w cols vs Cs
 work:∃a lo,dJ a lo wv (gI cols) F/\ft lo a.heap.size a w
 shr:gw w shv sh
 XG:nG o.seg Cs
 few:Cs.flatten.length<=64
 c0:0<cols.length
 c5:cols.length<=5
 shl:∀s∈sh,s<cols.length
 s0:0<sh.length
 s5:sh.length<=5
 bool:∀row,gI cols row->∀c,F row=.inl c->rN c
 ok:∀row∈Cs.flatten,gI cols row
section
variable {o:sE} {w w':ω} {q:Nat} {shv wv:υ} {cols:List br} {sh:List Nat} {F:List aD->dj} {Cs:List (List (List aD))}
theorem tU.below(a:tU o w q shv wv cols sh F Cs)(b:δ w.heap.size w w'):tU o w' q shv wv cols sh F Cs:=by obtain⟨n,z,y,C,p,r,t,c⟩:=a.tab;obtain⟨d,x,u,v⟩:=a.work;exact⟨⟨n,z,y,C,vA b _ _ p,r.below b (ae _),bu.below t b (ae _),⟨c.1,λi A m f g=>by obtain⟨ss,j,k⟩:=c.2 i A m f g;exact⟨ss,bu.below j b (ae _),k⟩⟩⟩,⟨d,x,u,v.below b⟩,bu.below a.shr b (ae _),a.XG,a.few,a.c0,a.c5,a.shl,a.s0,a.s5,a.bool,a.ok⟩
theorem tU.fn(d:tU o w q shv wv cols sh F Cs):(∃b a,wv=.func (.func b) #[] a)/\∃c a,shv=ψ c sh.length a:=by obtain⟨c,g,f,-⟩:=d.work;obtain⟨b,a,rfl,-⟩:=f;exact⟨⟨b,a,rfl⟩,bu.slice d.shr⟩
theorem tU.Va(a:tU o w q shv wv cols sh F Cs):Calls prog 69 #[χ #[π (σ (Ad q 0)),shv,wv]] w λm w'=>∃c f b,m=τ (ψ c f b)/\ew w' (ψ c f b) (sh.map λs=>cols.getD s default)/\δ w.heap.size w w':=by obtain⟨r,v,u,y,g,j,-,-⟩:=a.tab;obtain⟨⟨t,b,rfl⟩,-⟩:=a.fn;refine(E0 g j a.shr a.shl (by have:=a.s5;omega)).mono ?_;rintro _ w' ⟨x,rfl,d,k⟩;obtain⟨n,p,rfl,-,-⟩:=cu d;exact⟨_,_,_,rfl,by have:=bu.eY d;unfold ew;rw[aQ];exact this,k⟩
theorem tU.read(a:tU o w q shv wv cols sh F Cs)(n:δ w.heap.size w w'){fg:List J4}(c:vq w w' (sh.map λs=>cols.getD s default) x fg)(t:fg.length<=300):Calls prog 92 #[χ #[π (σ (Ad q 0)),shv,wv],.agg (OB o).toArray,x] w' λe z=>Ph w' z (sh.map λs=>cols.getD s default) fg (jV F sh Cs.flatten) e:=by obtain⟨E,M,I,N,g,j,k,m⟩:=a.tab;obtain⟨A,H,v,y⟩:=a.work;refine abC o g j k m a.XG a.few a.c0 a.c5 a.shr a.shl a.s0 a.s5 v y a.bool a.ok n c.ok (bu.eY c.row) (λC K D d r=>?_) c.lies t;obtain⟨f,u,e⟩:=r;rcases c.row.2 with⟨b,-⟩|⟨G,cap,cur,b,-,p,-⟩;{rw[d]at b;cases b};rw[d]at b;cases b;have:=(c.lies (f,(0,0,0)) (cE.mpr ⟨f,u,rfl⟩)).1;dsimp only at e this;rw[<- e,p]at this;cases this
end
def Vb(cols:List br):FN:=⟨λv _ _ X=>∃a m c,v=ψ a m c/\ew X (ψ a m c) cols,λ_ _ _ _ _ ⟨a,m,c,h1,h2⟩ hb=>⟨a,m,c,h1,h2.below hb (ae _)⟩⟩
def akg(W:ω)(cols:List br)(es:List Ex):FN:=⟨λv _ _ X=>∃a c,∃fg:List J4,v=ψ a fg.length c/\vq W X cols (ψ a fg.length c) fg/\fg.map (·.e)=es,λ_ _ _ _ _ ⟨a,c,fg,h1,h2,h3⟩ hb=>⟨a,c,fg,h1,h2.below hb,h3⟩⟩
def abP(w w':ω)(Q:(Nat×Nat) ⊕ (List br×List (List aD)))(e:Ending):Prop:=δ w.heap.size w w'/\(∀f,Q=.inl f->e=τ (.tuple #[χ #[ψ ν 0 0,ψ ν 0 0],χ #[ι κ f.1,ι κ f.2]]))/\∀x,Q=.inr x->∃a2 m2 c2 a1 m1 c1,e=τ (.tuple #[χ #[ψ a2 m2 c2,ψ a1 m1 c1],χ #[ι κ 0,ι κ 0]])/\(∀M:Nat->Prop,(∀b,M b->b<w.heap.size)->nN M w' (ψ a2 m2 c2) x.1/\iU M w' (ψ a1 m1 c1) (bh x.1.length x.2))/\oq x.1/\0<x.1.length/\fB x.1 x.2/\x.2.length<=64
theorem akh(w:ω)(b c f g k m:Obj):∃W,W=(((((w.alloc b).alloc c).alloc f).alloc g).alloc k).alloc m/\W.heap.size=w.heap.size+6/\δ w.heap.size w W/\W.heap[w.heap.size]?=σ b/\W.heap[w.heap.size+1]?=σ c/\W.heap[w.heap.size+2]?=σ f/\W.heap[w.heap.size+3]?=σ g/\W.heap[w.heap.size+4]?=σ k/\W.heap[w.heap.size+5]?=σ m:=by have j:=fX w b c;have d:=fX ((w.alloc b).alloc c) f g;have a:=fX ((((w.alloc b).alloc c).alloc f).alloc g) k m;rw[show((w.alloc b).alloc c).heap.size=w.heap.size+2 from by simp]at d;rw[show((((w.alloc b).alloc c).alloc f).alloc g).heap.size=w.heap.size+4 from by simp]at a;exact⟨_,rfl,by simp,j.1.trans ((d.1.trans (a.1.mono (by omega))).mono (by omega)),(a.1.block _ (by omega)).trans ((d.1.block _ (by omega)).trans j.2.2),(a.1.block _ (by omega)).trans ((d.1.block _ (by omega)).trans j.2.1),(a.1.block _ (by omega)).trans d.2.2,(a.1.block _ (by omega)).trans d.2.1,a.2.2,a.2.1⟩
theorem Ep{B:Nat}{I K M:υ}{H:TypeId}(D:u.heap[p]?=σ (ξ #[x,I] r (0,0)))(E:u.heap[t]?=σ (ξ #[K,M] H (0,0)))(G:δ B n u)(y:B<=p)(z:B<=t)(m:p≠t)(d f g j:υ):∃b,b=(((u.setCell (Ad p 0) d).setCell (Ad p 1) f).setCell (Ad t 0) g).setCell (Ad t 1) j/\(b.cell? (Ad p 0)=σ d/\b.cell? (Ad p 1)=σ f)/\(b.cell? (Ad t 0)=σ g/\b.cell? (Ad t 1)=σ j)/\δ B n b/\(∀a,a≠p->a≠t->b.heap[a]?=u.heap[a]?)/\u.heap.size<=b.heap.size:=by have k:∀a,a≠t->((((u.setCell (Ad p 0) d).setCell (Ad p 1) f).setCell (Ad t 0) g).setCell (Ad t 1) j).heap[a]?=((u.setCell (Ad p 0) d).setCell (Ad p 1) f).heap[a]?:=λa c=>(ay _ _ _ _ c).trans (ay _ _ _ _ c);have v:∀a,a≠p->((u.setCell (Ad p 0) d).setCell (Ad p 1) f).heap[a]?=u.heap[a]?:=λa c=>(ay _ _ _ _ c).trans (ay _ _ _ _ c);exact⟨_,rfl,aR ((k p m).trans (sP D)),aR (sP ((v t m.symm).trans E)),(((G.setCell y _).setCell y _).setCell z _).setCell z _,λa A C=>(k a C).trans (v a A),by simp[World.setCell]⟩
theorem abQ{o:sE}{w:ω}{q:Nat}{shv wv:υ}{cols:List br}{sh:List Nat}{F:List aD->dj}{Cs:List (List (List aD))}{ss:List mo}{pl tp:Nat}{t:ByteArray}(hv:tU o w q shv wv cols sh F Cs)(je:uK w x ss)(v:∀s∈ss,pE s.2)(er:ss.length<=300)(K6:gC (sh.map λs=>cols.getD s default) ss=(0,0))(wL:oq (sh.map λs=>cols.getD s default))(vH:fB (sh.map λs=>cols.getD s default) (jV F sh Cs.flatten)) :
 Calls prog 70 #[χ #[ι κ pl,θ t,ι κ tp,x],χ #[π (σ ⟨q,0,ν⟩),shv,wv],.agg (OB o).toArray] w λe w'=>abP w w' (kh o.bud pl (sh.map λs=>cols.getD s default) (jV F sh Cs.flatten) ss) e:=by
 obtain⟨ci,ck,rfl⟩:=je.slice;obtain⟨⟨fn,bY,rfl⟩,Hx,cg,rfl⟩:=hv.fn;obtain⟨T,Qp⟩:=nm (sh.map λs=>cols.getD s default);have Ip:T.length=sh.length:=by rw[Qp,aQ]
 have DI:=ak (λc (b:δ w.heap.size w c)=>(hv.below b).Va);have Pq:=ak (λW c (h0:δ w.heap.size w W) (b:δ W.heap.size W c) fg es (E:vq W c (sh.map λs=>cols.getD s default) es fg) N=>(hv.below h0).read b E N);have hn:zn T:=by unfold zn;rw[Ip];have:=hv.s0;have:=hv.s5;omega
 rw[<- Qp]at K6 wL vH DI Pq ⊢;have cp:=ak (λc (b:δ w.heap.size w c) ca cm cc (hc:ew c (ψ ca cm cc) T)=>FT (pl:=pl) (tp:=tp) (t:=t) (je.below b (ae _)) v er hc hn K6);obtain⟨S,j⟩:=nm (jV F sh Cs.flatten);have eg:S.length<=64:=by rw[j];exact ag (vY _ _ _) hv.few
 rw[<- j]at vH Pq ⊢;obtain⟨W0,zV,lC,mL,e0,e1,e2,e3,e4,e5⟩:=akh w (Zm pl t tp ci ss.length ck) (Nd (π (σ ⟨q,0,ν⟩)) Hx sh.length cg (.func (.func fn) #[] bY)) (obV o.seg o.pk o.wd o.prune o.push o.bud) (wG ν 0 0 ν 0 0) (gY 0 0) (ξ #[ι κ o.bud] 206);have Qw:=ak zV;unfold OB at Pq ⊢;go_in;refine wp_seq_k λK1 Qu=>?_;have qW:=ak Qu;clear Qu;go_wp2_with fail;refine qW.J _ _ ?_;clear qW K1;refine wp_seq_k λK1 Qu=>?_;have qW:=ak Qu;clear Qu;go_wp2_with fail;refine qW.J _ _ ?_;clear qW K1;rw[<- Qw.J];refine wp_seq_k λK1 Qu=>?_;have qW:=ak Qu;clear Qu;go_wp2_with fail;refine qW.J _ _ ?_;clear qW K1;refine wp_seq_k λK2 VH=>?_;have DR:prog.follows .mixedOrders=true:=by kernel_rfl
 have V:=ak (λc (b:aX (λa=>a<W0.heap.size/\a≠w.heap.size+5) W0 c)=>(show(c.cell? ⟨w.heap.size,0,ν⟩=σ (ι κ pl)/\c.cell? ⟨w.heap.size,1,ν⟩=σ (θ t)/\c.cell? ⟨w.heap.size,2,ν⟩=σ (ι κ tp)/\c.cell? ⟨w.heap.size,3,ν⟩=σ (ψ ci ss.length ck))/\(c.cell? ⟨w.heap.size+1,0,ν⟩=σ (π (σ ⟨q,0,ν⟩))/\c.cell? ⟨w.heap.size+1,1,ν⟩=σ (ψ Hx sh.length cg)/\c.cell? ⟨w.heap.size+1,2,ν⟩=σ (.func (.func fn) #[] bY))/\c.heap[w.heap.size+2]?=σ (obV o.seg o.pk o.wd o.prune o.push o.bud)/\c.heap[w.heap.size+3]?=σ (wG ν 0 0 ν 0 0)/\c.heap[w.heap.size+4]?=σ (gY 0 0)/\δ w.heap.size w c from by
  have u:∀a,a<w.heap.size+5->c.heap[a]?=W0.heap[a]?:=λa a1=>b.block a ⟨by omega,by omega⟩;exact⟨jP ((u _ (by omega)).trans e0),aY ((u _ (by omega)).trans e1),(u _ (by omega)).trans e2,(u _ (by omega)).trans e3,(u _ (by omega)).trans e4,⟨b.os.trans mL.os,b.tape.trans mL.tape,b.output.trans mL.output,ag mL.size b.size,λa r=>(u a (by omega)).trans (mL.block a r)⟩⟩))
 have Oy:=ak e5;have Br:=ak mL;have cL:w.heap.size+5<W0.heap.size:=by omega
 have tD:=ak je;have HF:=ak v;have dT:=ak K6;have d9:=ak wL;have JD:=ak vH;have HN:=ak hn;have aC:Hid (∀c,δ W0.heap.size W0 c->aX (λa=>a<W0.heap.size/\a≠w.heap.size+5) W0 c):=ak λc b=>⟨b.os,b.tape,b.output,b.size,λa r=>b.block a r.1⟩;obtain⟨⟨y0,y1,y2,y3⟩,⟨y4,y5,y6⟩,U,-⟩:=V.J W0 (aX.refl _ _);have y8:W0.cell? ⟨w.heap.size+1+1,4,ν⟩=σ (.bool o.push):=cell0 U 4;clear e0 e1 e2 e3 e4 e5 mL je v K6 wL vH hn hv Qp j zV U lC;go_cut[9]from 19 to 24 (λev wx=>∃va cap,∃fg:List J4,ev=ψ va fg.length cap/\Hid (vq W0 wx T (ψ va fg.length cap) fg)/\Hid (fg.map (·.e)=(jQ ss).take fg.length))
 (case first=>have en:o.push=true\/o.push=false:=(by cases o.push<;>simp);rcases en with ax|ax;{rw[ax]at y8;clear ax;go_wp2_with fail;refine q6 (n:=4) (m:=1) (z:=95) [.is (χ #[ι κ pl,θ t,ι κ tp,ψ ci ss.length ck]),.is (χ #[π (σ ⟨q,0,ν⟩),ψ Hx sh.length cg,.func (.func fn) #[] bY]),Vb T,akg W0 T (jQ ss)] DR rfl (by kernel_rfl) ⟨⟨⟨⟨trivial,?_⟩,?_⟩,?s2⟩,?s3⟩ ?fin;(case s2=>refineλρ lo hi c r ⟨v,(a1:ρ (.tmp 22)=_),_⟩=>eT rfl v call69 (by simp[a1]) (DI.J c (Br.J.trans (((aH (ah _ _)).trans r).mono Br.J.size))) ?_;rintro _ D ⟨a2,m2,c2,rfl,KB,M⟩;exact⟨_,rfl,⟨_,_,_,rfl,KB⟩,M⟩);(case s3=>refineλρ lo hi c r ⟨v,(a1:ρ (.tmp 21)=_),⟨a2,m2,c2,(a3:ρ (.tmp 23)=_),KB⟩,_⟩=>eT rfl v call91 (by simp[a1,a3]) (cp.J c (Br.J.trans (((aH (ah _ _)).trans r).mono Br.J.size)) a2 m2 c2 KB) ?_;rintro _ D ⟨e7,fg,rfl,Cq,ZD⟩;obtain⟨a4,c4,rfl,-,-⟩:=cu Cq.row;exact⟨_,rfl,⟨_,_,fg,rfl,Cq.from ((aH (ah _ _)).trans r),ZD⟩,Cq.sX⟩);(case fin=>intro val Zd eH c r hv _;obtain⟨va,vc,fg,v3,Cq,ZD⟩:=(hv 3 (by decide)).1;clear hv;simp[mY,gO,Act.put,v3];refine nu (i:=4) (by kernel_rfl) rfl (by rfl) (fj (w':=c) (by go_simp;with_reducible rfl) (qo (by kernel_rfl) ?_ _));simp[Act.put];go_wp2_with fail;go_meet;exact⟨_,_,fg,rfl,ak Cq,ak (by rw[ZD,<- aQ (f:=(·.e)),ZD,eV])⟩);all_goals refineλρ lo hi c r ⟨(a1:ρ _=_),_⟩=>fj (w':=c) ?_ ⟨rfl,ah _ _⟩;obtain⟨⟨z0,z1,z2,z3⟩,⟨z4,z5,z6⟩,-⟩:=V.J c (aC.J c ((aH (ah _ _)).trans r));go_simp};rw[ax]at y8;clear ax;go_wp2_with fail;go_meet;exact⟨ν,0,[],rfl,ak (vq.nil W0 T),ak rfl⟩);case rest=>
  obtain⟨va,cap,fg,rfl,ao,Wn⟩:=hcut;obtain⟨L,hL⟩:=nm (w.heap.size+5);obtain⟨R7,bd⟩:=nm (w.heap.size+4);obtain⟨R6,bb⟩:=nm (w.heap.size+3);obtain⟨Bo,a8⟩:=nm (w.heap.size+2);obtain⟨Bv,a9⟩:=nm (w.heap.size+1);rw[show w.heap.size+1+1+1+1+1=L from hL.symm,show w.heap.size+1+1+1+1=R7 from bd.symm,show w.heap.size+1+1+1=R6 from bb.symm,show w.heap.size+1+1=Bo from a8.symm,show w.heap.size+1=Bv from a9.symm];rw[<- hL]at Oy cL;rw[<- hL]at V aC;rw[<- a8,<- a9,<- bb,<- bd]at V;have d7:Hid (fg.length<=300):=ak (by
   have E:=bn List.length Wn.J;rw[aQ,bV]at E;have N:=(Db (ss:=ss) (ae _)).2.2;omega)
  have p:Hid (w.heap.size+5=L/\w.heap.size+4=R7/\w.heap.size+3=R6/\w.heap.size+2=Bo/\w.heap.size+1=Bv):=ak ⟨hL.symm,bd.symm,bb.symm,a8.symm,a9.symm⟩;clear y0 y1 y2 y3 y4 y5 y6 y8 DI cp hL bd bb a8 a9;refine VH _ _ ?_;clear VH K2;obtain⟨⟨y0,y1,y2,y3⟩,⟨y4,y5,y6⟩,U,-⟩:=V.J wc (aC.J wc ao.J.sX);have p0:=cell0 U 0;have p1:=cell0 U 1;have p2:=cell0 U 2;have p3:=cell0 U 3;have p4:=cell0 U 4;have p5:=cell0 U 5;simp only[List.getElem?_toArray,List.getElem?_cons_zero,List.getElem?_cons_succ]at p0 p1 p2 p3 p4 p5;clear U;go_wp2_with fail;refine(Pq.J W0 wc Br.J ao.J.sX fg _ ao.J d7.J).mono ?_;rintro _ H ⟨ka,km,kc,ba,bm,bc,l,R',rfl,hh,uH,Cb,zX,Nj⟩;obtain⟨W3,Jm⟩:=nm (H.alloc (wG ka km kc ba bm bc));have f:=ML.start cL ao.J Oy.J Nj Cb zX hh;rw[<- Jm]at f;have c9:=BS pl S.length 0 0 f.bl ⟨by omega,by have:=o.b4;omega⟩ (λ_=>⟨rfl,by omega,by omega⟩);clear y0 y1 y2 y3 y4 y5 y6 p0 p1 p2 p3 p4 p5;have M:w.heap.size<H.heap.size:=by have:=f.lt;have:=p.J.1;omega
  obtain⟨⟨cl,-⟩,-⟩:=V.J W3 f.keep;have y0:H.cell? ⟨w.heap.size,0,ν⟩=σ (ι κ pl):=by rw[Jm]at cl;exact((ld H _).cell (p:=⟨w.heap.size,0,ν⟩) M).symm.trans cl
  clear cl;have CD:=ak Jm;have HQ:=ak f;have QF:=ak c9;have co:=ak uH;clear hh uH Cb zX Nj Jm f c9 Pq ao Oy aC;go_wp2_with fail;rw[<- CD.J];refine QF.J.mono ?_;rintro _ w4 ⟨u,rfl,v,Fu,wF⟩;have LH:=HQ.J.keep.trans (c:=w4) ⟨wF.os,wF.tape,wF.output,wF.size,λa b=>wF.block a ⟨ai b.1 HQ.J.keep.size,b.2⟩⟩;have Jh:=ak LH;have cN:=ak Fu;have Qy:=ak wF;have Y:=ak v;clear v Fu wF LH QF y0;go_wp2_with fail;refine(JC _ _ _).mono ?_;rintro _ w5 ⟨rfl,x8⟩;have AG:=SJ (ld w4 _) x8;have zq:w5.heap[w4.heap.size]?=σ (gY u.1 u.2):=vA x8 _ _ (au w4 _);clear x8;by_cases P:u.1=0
  .obtain⟨e1,e2,e3⟩:=(La (bud:=o.bud) (pl:=pl) (cs:=T) (S:=S) (ss:=ss)).2 (by rw[<- Y.J];exact P);have Fu:=cN.J P;rw[<- Y.J]at e1;subst e1;have b5:=(HQ.J.pay cL Qy.J Fu).below cL AG;have c6:QGo (kh o.bud pl T S ss) ss 0 l T S R' ((o.bud:Int) - S.length):=⟨e3,by rw[nZ];exact dT.J,d9.J,HN.J,JD.J,eg,e2,by have:=o.b4;omega,by rw[nZ];exact co.J⟩;obtain⟨⟨-,-,-,y3⟩,-⟩:=V.J w5 b5.keep;have d4:=ak b5;have d3:=ak c6;clear P Fu e2 e3 b5 c6 AG zq Jh cN Qy Y HQ co CD;go_wp2_with fail;clear y3;go_loopw[44] (λiv wr=>∃(i:Nat) (cs:List br) (R R':List (List aD)) (left:Int) (ka:Option Addr) (km kc:Nat) (ba:Option Addr) (bm bc:Nat),i<=ss.length/\iv=ι κ i/\Hid (ML W0 wr L H.heap.size va cap fg l cs (bh cs.length R') left (ψ ka km kc) (ψ ba bm bc))/\Hid (QGo (kh o.bud pl T S ss) ss i l cs R R' left)) (λiv _=>ss.length - (intOf iv).toNat);(case atStart=>exact⟨0,_,_,_,_,_,_,_,_,_,_,aK _,rfl,d4,d3⟩);case round=>
    obtain⟨i,cs,R,R',left,ka,km,kc,ba,bm,bc,hi,rfl,Z,RL⟩:=hrel;by_cases uX:i<ss.length
    .have ju:(i:Int)<ss.length:=(by omega);have f:=Z.J;have g:=RL.J;obtain⟨s,X⟩:∃s,ss[i]?=σ s:=⟨_,af uX⟩;obtain⟨-,-,-,-,-,lx⟩:=V.J wr f.keep;obtain⟨sg,so,Hq,av,he,s0,s1,J3⟩:=(tD.J.below lx (ae _)).get X;cases he;obtain⟨te,bt,rfl⟩:=K3 J3;obtain⟨nc,AB,K6⟩:=BR X g.XG;have Ik:=HF.J s (aA X);obtain⟨W2,qM⟩:=nm ((wr.alloc (ad2 s.1 (.iface te bt))).alloc (obY s.1 0 0 0));obtain⟨M,mq,yK⟩:=fX wr (ad2 s.1 (.iface te bt)) (obY s.1 0 0 0);rw[<- qM]at M mq yK;have c8:=f.below cL M;have ex:H.heap.size<wr.heap.size:=aw f.bo;by_cases LG:i<fg.length;(case' pos=>have ea:(i:Int)<fg.length:=(by omega);obtain⟨d,hx⟩:∃d,l[i]?=σ d:=⟨_,af (by rw[<- f.ln,aQ]at LG;exact LG)⟩;have dx:fg[i]?=σ d.1:=(by rw[<- f.ln,aV,hx];rfl);obtain⟨eZ,f',cd⟩:=abO Wn.J dx;have Dy:s.2=.gB d.1.e f':=(by rw[X]at cd;cases cd;rfl);obtain⟨R2,nU,DA,c3⟩:=g.aor X hx Dy;have a0:=ak (g.step X Ik nU DA (λ_=>c3));have dS:=ak (DA.bound (g.out Ik nU));have cx:=ak (And.intro g.pos g.top);have Za:δ wr.heap.size wr W2.drew:=M.trans (aH (ah _ _));have al:W2.drew.heap[wr.heap.size+1]?=σ (obY s.1 0 0 0):=mq;have uz:=ak qM;clear c8 M mq yK qM DA c3 nU Dy cd AB K6 Ik J3 lx g X RL f;go_wp2_with fail;rw[<- uz.J];refine wp_region_noPanic ?_;have ce:=Z.J.below cL Za;obtain⟨eQ,bl⟩:=ce.sv d (aA hx);obtain⟨vg,vo,dq,he,-,-,ds⟩:=(bu.eY ce.row).at (by omega);cases he;have t0:=ds i (Io d.1) (by rw[aV,dx];rfl);refine rP (S:=λc=>c.cell? ⟨vg,vo+i,ν⟩=σ (π (σ ⟨d.1.p,0,ν⟩))/\c.cell? ⟨d.1.p,1,ν⟩=σ (ι κ d.2.1)/\c.cell? ⟨d.1.p,2,ν⟩=σ (ι κ d.2.2.1)/\c.cell? ⟨d.1.p,3,ν⟩=σ (ι κ d.2.2.2)) DR ?_;generalize W2.drew=c at *;have j:c.cell? ⟨vg,vo+i,ν⟩=σ (π (σ ⟨d.1.p,0,ν⟩))/\c.cell? ⟨d.1.p,1,ν⟩=σ (ι κ d.2.1)/\c.cell? ⟨d.1.p,2,ν⟩=σ (ι κ d.2.2.1)/\c.cell? ⟨d.1.p,3,ν⟩=σ (ι κ d.2.2.2):=⟨t0,cell0 bl 1,cell0 bl 2,cell0 bl 3⟩;have n0:vg≠wr.heap.size+1:=(by have:=(Z.J.row.lt vg rfl).2;omega);have n1:d.1.p≠wr.heap.size+1:=(by have:=aw (Z.J.sv d (aA hx)).2;omega);have n2:=n0.symm;have n3:=n1.symm;obtain⟨k0,k1,k2,k3⟩:=jP al;have z1:=eR al 1;have z2:=eR al 2;have z3:=eR al 3;have cv:=ak al;have c5:=ak Za;clear al Za ce bl ds t0;refine kT (i:=0) rfl (by kernel_rfl) (λ_ _ _ b=>b) (by rintro C ⟨m,n,I,K⟩;go_simp;with_reducible rfl) j ?_;refine kT (i:=1) rfl (by kernel_rfl) (λ_ _ _ b=>b) (by rintro C ⟨m,n,I,K⟩;go_simp;with_reducible rfl) j ?_;refine kT (i:=2) rfl (by kernel_rfl) (λ_ _ _ b=>b) (by rintro C ⟨m,n,I,K⟩;go_simp;with_reducible rfl) j ?_;refine kT (i:=3) rfl (by kernel_rfl) (λ_ _ _ b=>b) (by rintro C ⟨m,n,I,K⟩;go_simp;with_reducible rfl) j ?_;refine kT (i:=4) rfl (by kernel_rfl) (λ_ _ _ b=>b) (by rintro C ⟨m,n,I,K⟩;go_simp;with_reducible rfl) j ?_;refine kT (i:=5) rfl (by kernel_rfl) (λ_ _ _ b=>b) (by rintro C ⟨m,n,I,K⟩;go_simp;with_reducible rfl) j ?_;refine kT (i:=6) rfl (by kernel_rfl) (λ_ _ _ b=>b) (by rintro C ⟨m,n,I,K⟩;go_simp;with_reducible rfl) j ?_;refine kT (i:=7) rfl (by kernel_rfl) (λ_ _ _ b=>b) (by rintro C ⟨m,n,I,K⟩;go_simp;with_reducible rfl) j ?_;refine kT (i:=8) rfl (by kernel_rfl) (λ_ _ _ b=>b) (by rintro C ⟨m,n,I,K⟩;go_simp;with_reducible rfl) j ?_;refine kT (i:=9) rfl (by kernel_rfl) (λ_ _ _ b=>b) (by rintro C ⟨m,n,I,K⟩;go_simp;with_reducible rfl) j ?_;refine kT (i:=10) rfl (by kernel_rfl) (λ_ _ _ b=>b) (by rintro C ⟨m,n,I,K⟩;go_simp;with_reducible rfl) j ?_;refine kT (i:=11) rfl (by kernel_rfl) (λ_ _ _ b=>b) (by rintro C ⟨m,n,I,K⟩;go_simp;with_reducible rfl) j ?_;refine kT (i:=12) rfl (by kernel_rfl) (λ_ _ _ b=>b) (by rintro C ⟨m,n,I,K⟩;go_simp;with_reducible rfl) j ?_;refine kT (i:=13) rfl (by kernel_rfl) (λ_ _ _ b=>b) (by rintro C ⟨m,n,I,K⟩;go_simp;with_reducible rfl) j ?_;obtain⟨m,n,I,K⟩:=j;refine qO (i:=14) (by kernel_rfl) rfl (by rfl) ?_;unfold iR;simp only[Act.put];go_simp;refine qO (i:=15) (by kernel_rfl) rfl (by rfl) ?_;unfold iR;go_simp;refine qO (i:=16) (by kernel_rfl) rfl (by rfl) ?_;unfold iR;go_simp;refine qO (i:=17) (by kernel_rfl) rfl (by rfl) ?_;unfold iR;go_simp;refine wpAnyH_done (by kernel_rfl) (NoPanic.normal ?_) _;obtain⟨O,G⟩:=nm (((c.setCell ⟨wr.heap.size+1,1,ν⟩ (ι κ d.2.1)).setCell ⟨wr.heap.size+1,2,ν⟩ (ι κ d.2.2.1)).setCell ⟨wr.heap.size+1,3,ν⟩ (ι κ d.2.2.2));rw[<- G];have ab:δ wr.heap.size wr O:=(by rw[G];exact((c5.J.setCell (bE _) _).setCell (bE _) _).setCell (bE _) _);have db:O.heap[wr.heap.size+1]?=σ (obY s.1 d.2.1 d.2.2.1 d.2.2.2):=(by rw[G];exact aN _ _ 3 _ _ _ (aN _ _ 2 _ _ _ (aN _ _ 1 _ _ _ cv.J)));obtain⟨v0,v1,v2,v3⟩:=jP db;have aa:=Z.J.below cL ab;have QF:=ak (BS s.1 d.2.1 d.2.2.1 d.2.2.2 aa.bl ⟨by have:=cx.J.1;omega,by have:=cx.J.2;omega⟩ dS.J);obtain⟨Lb,b3⟩:=nm (bh cs.length R');rw[<- b3]at aa;have an:=ak aa;have bS:Hid ((jm left s.1 d.2.1 d.2.2.1 d.2.2.2).1=0->Lb=bh cs.length R'):=ak λ_=>b3;clear b3;clear G ab db aa k0 k1 k2 k3 z1 z2 z3 n0 n1 n2 n3 m n I K cv c5;go_wp2_with fail;generalize (d.2.1:Int)=rows at *;generalize (d.2.2.1:Int)=ee at *;generalize (d.2.2.2:Int)=eq at *);case' neg=>
      have ea:¬(i:Int)<fg.length:=(by omega);have D3:l.length<=i:=(by rw[<- f.ln,aQ]at LG;omega);obtain rfl:=g.bare D3;obtain⟨bx,hM⟩:=nm (λa=>a<W0.heap.size\/a=H.heap.size\/a=wr.heap.size+1:Nat->Prop);have c7:∀a,bx a->a<W2.heap.size:=λa r=>by rw[hM]at r;have:=aw mq;have:=f.keep.size;omega
      obtain⟨e6,r',fw,he,hm,LL,vK⟩:=abw (M:=bx) (S:=o.wd) (J3.below M (ae _)) Ik c7 ((f.hc.grow M).sub (λa r=>by rw[hM]at r;omega)) g.n.1 (ag g.n.2 (by decide)) AB ((f.hb.moves M.size (λa d8 _=>M.block a d8)).sub (λa r=>by rw[hM]at r;omega)) g.len (λbt hr=>SY (g.fit bt hr)) (by have:=o.w1;omega) (by have:=o.w16;omega);cases he;have eb:=(C9 Ik g.n AB).1;obtain⟨q0,q1⟩:=aR f.bo;have U:=cell0 (V.J wr f.keep).2.2.1 2;simp only[List.getElem?_toArray,List.getElem?_cons_zero,List.getElem?_cons_succ]at U;have et:Bo<wr.heap.size:=(by have:=f.keep.size;have:=p.J;omega);have cn:=ak vK;have qW:=ak mq;have jl:=ak M;have uz:=ak qM;have a5:=ak hM;have SH:=ak (And.intro X (And.intro Ik AB));clear vK mq M qM yK hM c7 c8 J3 lx K6 Ik AB f g X;go_wp2_with fail;rw[<- uz.J];refine cn.J.mono ?_;rintro _ w3 dd;obtain⟨a2,m2,c2,a1,m1,c1,ee,eq,Lb,a6,R2,rfl,fI,dg,cb,sd,DA,dl⟩:=afK dd eb;have Mt:=jl.J.trans (fI.mono jl.J.size);have b4:=Z.J.below cL Mt;have ar:=vA fI _ _ qW.J;have ap:=b4.bo;obtain⟨D,Zf⟩:=nm ((((w3.setCell ⟨H.heap.size,0,ν⟩ (ψ a2 m2 c2)).setCell ⟨H.heap.size,1,ν⟩ (ψ a1 m1 c1)).setCell ⟨wr.heap.size+1,2,ν⟩ (ι κ ee)).setCell ⟨wr.heap.size+1,3,ν⟩ (ι κ eq));have bo:H.heap.size≠wr.heap.size+1:=(by omega);have dN:=bo.symm;have f1:∀a,a≠H.heap.size->a≠wr.heap.size+1->D.heap[a]?=w3.heap[a]?:=λa E N=>by rw[Zf];exact(ay _ _ _ _ N).trans ((ay _ _ _ _ N).trans ((ay _ _ _ _ E).trans (ay _ _ _ _ E)))
      have b8:D.heap[H.heap.size]?=σ (wG a2 m2 c2 a1 m1 c1):=(by rw[Zf];exact(ay _ _ _ _ bo).trans ((ay _ _ _ _ bo).trans (sP ap)));have b7:D.heap[wr.heap.size+1]?=σ (obY s.1 0 ee eq):=(by rw[Zf];exact aN _ _ 3 _ _ _ (aN _ _ 2 _ _ _ ((ay _ _ _ _ dN).trans ((ay _ _ _ _ dN).trans ar))));have ad:w3.heap.size<=D.heap.size:=(by rw[Zf];simp[World.setCell]);have bg:D.os=w3.os/\D.tape=w3.tape/\D.output=w3.output:=(by rw[Zf];exact⟨rfl,rfl,rfl⟩);obtain⟨O,G⟩:=nm (D.setCell ⟨wr.heap.size+1,1,ν⟩ (ι κ a6.length));have fZ:∀a,a≠wr.heap.size+1->O.heap[a]?=D.heap[a]?:=λa b=>by rw[G];exact ay _ _ _ _ b
      have am:D.heap.size<=O.heap.size:=(by rw[G];simp[World.setCell]);have bi:O.os=D.os/\O.tape=D.tape/\O.output=D.output:=(by rw[G];exact⟨rfl,rfl,rfl⟩);have ed:=aw Z.J.bl;have aa:ML W0 O L H.heap.size va cap fg l nc Lb left (ψ a2 m2 c2) (ψ a1 m1 c1):=(by have ey:=Z.J.lt;refine Z.J.on cL ⟨bi.1.trans (bg.1.trans Mt.os),bi.2.1.trans (bg.2.1.trans Mt.tape),bi.2.2.trans (bg.2.2.trans Mt.output),ag Mt.size (ag ad am),λa r=>(fZ a (by omega)).trans ((f1 a r.2.2 (by omega)).trans (Mt.block a r.1))⟩ ((fZ L (by omega)).trans ((f1 L (by omega) (by omega)).trans b4.bl)) ((fZ _ bo).trans b8) ?_ ?_;{exactλac E N=>dg ac (ag ad (ag am E)) (λa b1 k=>by rw[a5.J]at k;exact(N a (ai b1 (ag ad am)) (λb=>k (b.imp id .inl))).trans ((fZ a (λe=>k (.inr (.inr e)))).trans (f1 a (λe=>k (.inr (.inl e))) (λe=>k (.inr (.inr e))))))};exactλac E N=>cb ac (ag ad (ag am E)) (λa b1 k=>by rw[a5.J]at k;exact(N a (ai b1 (ag ad am)) (λb=>k (b.imp id .inl))).trans ((fZ a (λe=>k (.inr (.inr e)))).trans (f1 a (λe=>k (.inr (.inl e))) (λe=>k (.inr (.inr e)))))));have Ca:=ak (rO (cb D ad (λa b1 k=>by rw[a5.J]at k;exact f1 a (λe=>k (.inr (.inl e))) (λe=>k (.inr (.inr e))))) sd);obtain⟨X,Ik,AB⟩:=SH.J;have g:=RL.J;have je:=g.step X Ik AB DA (R3:=R2) (λ_=>by rw[kP (by omega)];rfl);have bS:Hid ((jm left s.1 a6.length ee eq).1=0->Lb=bh nc.length R2):=ak λb=>dl (je.2 b).2.1;have QF:=ak (BS s.1 a6.length ee eq aa.bl ⟨by have:=g.pos;omega,by have:=g.top;omega⟩ (DA.bound (g.out Ik AB)));have a0:=ak je;have an:=ak aa;clear q0 q1;obtain⟨q0,q1⟩:=aR ap;have z0:=eR ap 0;have z1:=eR ap 1;obtain⟨k0,k1,k2,k3⟩:=jP ar;have z2:=eR ar 2;have z3:=eR ar 3;obtain⟨k4,k5,k6,k7⟩:=jP b7;have z4:=eR b7 1;obtain⟨k8,k9⟩:=aR b8;have c0:=ak Zf;have HZ:=ak G;clear fI dg cb sd DA dl Mt b4 ar ap Zf f1 b8 b7 ad bg G fZ am bi ed aa X Ik AB g je dd U cn qW a5 SH;go_wp2_with fail;rw[<- c0.J];refine Ca.J.mono ?_;rintro _ _ ⟨rfl,rfl⟩;clear c0;go_wp2_with fail;rw[<- HZ.J];generalize (a6.length:Int)=rows at *
     all_goals
      refine QF.J.mono ?_;rintro _ w6 ⟨u,rfl,v,Fu,Jo⟩;have LH:=an.J.keep.trans (c:=w6) ⟨Jo.os,Jo.tape,Jo.output,Jo.size,λa b=>Jo.block a ⟨ai b.1 an.J.keep.size,b.2⟩⟩;have Jh:=ak LH;have cS:=ak Fu;have cr:=ak Jo;have Y:=ak v;clear v Fu Jo LH QF;go_wp2_with fail;refine(JC _ _ _).mono ?_;rintro _ w7 ⟨rfl,Nh⟩;have Er:=SJ (ld w6 _) Nh;have b9:w7.heap[w6.heap.size]?=σ (gY u.1 u.2):=vA Nh _ _ (au w6 _);clear Nh;by_cases P:u.1=0;{have cf:(jm left s.1 rows ee eq).1=0:=(by rw[<- Y.J];exact P);have hp:=cS.J P;obtain⟨d0,-,d2⟩:=a0.J.2 cf;have b6:=(an.J.pay cL cr.J hp).below cL Er;rw[bS.J cf]at b6;rw[<- Y.J]at d0;subst d0;have d5:=ak b6;have d1:=ak d2;clear cf hp d2 b6 Er b9 P an a0 bS Y cr cS Jh;go_wp2_with fail;exact⟨⟨i+1,_,_,_,_,_,_,_,_,_,_,uX,by go_num,d5,d1⟩,by simp[intOf];omega⟩}
      have em:(u.1 != 0)=true:=(by simpa using P);obtain⟨y,EU,sC⟩:=a0.J.1 (by rw[<- Y.J];exact P);rw[<- Y.J]at EU;subst EU;have bw:=ak sC;have Fa:aX (λa=>a<W0.heap.size/\a≠L) W0 w7.drew:=Jh.J.trans ⟨Er.os,Er.tape,Er.output,Er.size,λa b=>Er.block a (ai b.1 Jh.J.size)⟩;have aq:w7.drew.heap[w6.heap.size]?=σ (gY y.1 y.2):=b9;clear sC Er b9 P;go_wp2_with fail;refine wp_region_noPanic ?_;refine rP (S:=λc=>c.cell? ⟨w6.heap.size,0,ν⟩=σ (ι κ y.1)/\c.cell? ⟨w6.heap.size,1,ν⟩=σ (ι κ y.2)) DR ?_;generalize w7.drew=c at *;have j:=aR aq;obtain⟨-,-,-,z,A,jF⟩:=V.J c Fa;obtain⟨f0,f1⟩:=aR z;obtain⟨f2,f3⟩:=aR A;have z0:=eR z 0;have z1:=eR z 1;have z2:=eR A 0;have z3:=eR A 1;have fE:R6≠R7:=(by have:=p.J;omega);have n6:w6.heap.size≠R6:=λe=>by have:=Jh.J.size;have:=p.J;omega
      have n7:w6.heap.size≠R7:=λe=>by have:=Jh.J.size;have:=p.J;omega
      have Zb:=ak (Ep z A jF (by have:=p.J;omega) (by have:=p.J;omega) fE (ψ ν 0 0) (ψ ν 0 0) (ι κ y.1) (ι κ y.2));clear z A jF aq Fa;refine kT (i:=0) rfl (by kernel_rfl) (λ_ _ _ b=>b) (by rintro C ⟨m,n⟩;go_simp;with_reducible rfl) j ?_;refine kT (i:=1) rfl (by kernel_rfl) (λ_ _ _ b=>b) (by rintro C ⟨m,n⟩;go_simp;with_reducible rfl) j ?_;refine qO (i:=2) (by kernel_rfl) rfl (by rfl) ?_;unfold iR;simp only[Act.put];obtain⟨m,n⟩:=j;go_simp;refine qO (i:=3) (by kernel_rfl) rfl (by rfl) ?_;unfold iR;go_simp;refine wpAnyH_done (by kernel_rfl) (NoPanic.normal ?_) _;obtain⟨O,G,⟨q0,q1⟩,⟨q2,q3⟩,ab,-,-⟩:=Zb.J;rw[<- G];go_wp2_with fail;refine aB (v:=.tuple #[χ #[ψ ν 0 0,ψ ν 0 0],χ #[ι κ y.1,ι κ y.2]]) (by simp[results,results70,go_sem,q0,q1,q2,q3]) rfl ?_;rw[bw.J];exact⟨ab,λu v=>by cases v;rfl,λd hx=>by cases hx⟩
    obtain rfl:i=ss.length:=(by omega);have f:=Z.J;have g:=RL.J;have dn:l.length<=ss.length:=(by have E:=bn List.length Wn.J;rw[aQ,bV,<- f.ln,aQ]at E;have N:=(Db (ss:=ss) (ae _)).2.2;omega);obtain rfl:=g.bare dn;have d6:Hid (kh o.bud pl T S ss=.inr (cs,R')):=ak (by rw[g.run,fC];rfl);obtain⟨-,-,-,z,A,jF⟩:=V.J wr f.keep;obtain⟨f0,f1⟩:=aR z;obtain⟨f2,f3⟩:=aR A;obtain⟨b0,b1⟩:=aR f.bo;have z0:=eR z 0;have z1:=eR z 1;have z2:=eR A 0;have z3:=eR A 1;have fE:R6≠R7:=(by have:=p.J;omega);have n6:H.heap.size≠R6:=(by have:=f.lt;have:=p.J;omega);have n7:H.heap.size≠R7:=(by have:=f.lt;have:=p.J;omega);have Zb:=ak (Ep z A jF (by have:=p.J;omega) (by have:=p.J;omega) fE (ψ ka km kc) (ψ ba bm bc) (ι κ 0) (ι κ 0));clear z A jF f g dn;go_wp2_with fail;obtain⟨O,G,⟨q0,q1⟩,⟨q2,q3⟩,ab,el,be⟩:=Zb.J;rw[<- G];refine aB (v:=.tuple #[χ #[ψ ka km kc,ψ ba bm bc],χ #[ι κ 0,ι κ 0]]) (by simp[results,results70,go_sem,q0,q1,q2,q3]) rfl ?_;rw[d6.J];refine⟨ab,λu v=>(by cases v),λd hx=>?_⟩;cases hx;have f:=Z.J;have g:=RL.J;have hk:∀a,a<wr.heap.size->¬(a<W0.heap.size\/a=H.heap.size)->O.heap[a]?=wr.heap[a]?:=λa _ b=>el a (by have:=p.J;omega) (by have:=p.J;omega);have hW:w.heap.size<W0.heap.size:=(by have:=p.J;omega);refine⟨_,_,_,_,_,_,rfl,λbx hM=>⟨λac E N=>f.hc ac (ag be E) (λa b1 k=>(N a (ai b1 be) (λhm=>k (.inl (by have:=hM a hm;omega)))).trans (hk a b1 k)),λac E N=>f.hb ac (ag be E) (λa b1 k=>(N a (ai b1 be) (λhm=>k (.inl (by have:=hM a hm;omega)))).trans (hk a b1 k))⟩,g.few,g.n.1,g.fit,g.len⟩
  have em:(u.1 != 0)=true:=by simpa using P
  obtain⟨y,EU,sC⟩:=(La (bud:=o.bud) (pl:=pl) (cs:=T) (S:=S) (ss:=ss)).1 (by rw[<- Y.J];exact P);rw[<- Y.J]at EU;subst EU;have bw:=ak sC;have Fa:aX (λa=>a<W0.heap.size/\a≠L) W0 w5.drew:=Jh.J.trans ⟨AG.os,AG.tape,AG.output,AG.size,λa b=>AG.block a (ai b.1 Jh.J.size)⟩;have aq:w5.drew.heap[w4.heap.size]?=σ (gY y.1 y.2):=zq;clear sC AG zq P;go_wp2_with fail;refine wp_region_noPanic ?_;refine rP (S:=λc=>c.cell? ⟨w4.heap.size,0,ν⟩=σ (ι κ y.1)/\c.cell? ⟨w4.heap.size,1,ν⟩=σ (ι κ y.2)) DR ?_;generalize w5.drew=c at *;have j:=aR aq;obtain⟨-,-,-,z,A,jF⟩:=V.J c Fa;obtain⟨f0,f1⟩:=aR z;obtain⟨f2,f3⟩:=aR A;have z0:=eR z 0;have z1:=eR z 1;have z2:=eR A 0;have z3:=eR A 1;have fE:R6≠R7:=by have:=p.J;omega
  have n6:w4.heap.size≠R6:=λe=>by have:=Jh.J.size;have:=p.J;omega
  have n7:w4.heap.size≠R7:=λe=>by have:=Jh.J.size;have:=p.J;omega
  have Zb:=ak (Ep z A jF (by have:=p.J;omega) (by have:=p.J;omega) fE (ψ ν 0 0) (ψ ν 0 0) (ι κ y.1) (ι κ y.2));clear z A jF aq Fa;refine kT (i:=0) rfl (by kernel_rfl) (λ_ _ _ b=>b) (by rintro C ⟨m,n⟩;go_simp;with_reducible rfl) j ?_;refine kT (i:=1) rfl (by kernel_rfl) (λ_ _ _ b=>b) (by rintro C ⟨m,n⟩;go_simp;with_reducible rfl) j ?_;refine qO (i:=2) (by kernel_rfl) rfl (by rfl) ?_;unfold iR;simp only[Act.put];obtain⟨m,n⟩:=j;go_simp;refine qO (i:=3) (by kernel_rfl) rfl (by rfl) ?_;unfold iR;go_simp;refine wpAnyH_done (by kernel_rfl) (NoPanic.normal ?_) _;obtain⟨O,G,⟨q0,q1⟩,⟨q2,q3⟩,ab,-,-⟩:=Zb.J;rw[<- G];go_wp2_with fail;refine aB (v:=.tuple #[χ #[ψ ν 0 0,ψ ν 0 0],χ #[ι κ y.1,ι κ y.2]]) (by simp[results,results70,go_sem,q0,q1,q2,q3]) rfl ?_;rw[bw.J];exact⟨ab,λu v=>by cases v;rfl,λd hx=>by cases hx⟩
theorem xE{cols:List br}{q:Nat×Nat}:∀{e:Ex},Il e->cH cols e=.inr q->q.1<10/\q.2<=300
 |.num _,_,h=>by cases h
 |.str _,_,h=>by cases h
 |.bool _,_,h=>by cases h
 |.junk,_,h=>by cases h
 |.col s a,p,h=>by
   simp only[cH]at h;split at h
   . cases h
   . cases h;exact⟨by simp,p⟩
 |.kG no a x,p,h=>by
   simp only[cH]at h;split at h
   . rename_i e b;cases h;exact xE p.2 b
   . cases h
 |.neg a x,p,h=>by
   simp only[cH]at h;split at h
   . rename_i e b;cases h;exact xE p.2 b
   . split at h
     . cases h
     . cases h;exact⟨by simp,p.1⟩
 |.not a x,p,h=>by
   simp only[cH]at h;split at h
   . rename_i e b;cases h;exact xE p.2 b
   . split at h
     . cases h
     . cases h;exact⟨by simp,p.1⟩
 |.two op a x y,p,h=>by
   simp only[cH]at h;split at h
   . rename_i e b;cases h;exact xE p.2.1 b
   . split at h
     . rename_i e f;cases h;exact xE p.2.2 f
     . rename_i d _ _ g _
       by_cases c:d≠g\/(d≠(if pq op then 0 else 2)/\lH op=false)
       . rw[aF c]at h;cases h;exact⟨by simp,p.1⟩
       . rw[aE c]at h;cases h
theorem acN{b:Int×Bool}(a:Ec p b=.inr t):t=p:=by unfold Ec at a;split at a;{cases a};cases a;rfl
theorem eval_at{cols:List br}{row:List aD}{d:Nat}:∀{e:Ex},Il e->cU cols row e=.inr d->d<=300
 |.num _,_,b=>by cases b
 |.str _,_,b=>by cases b
 |.bool _,_,b=>by cases b
 |.junk,_,b=>by cases b
 |.col s a,_,b=>by cases b
 |.kG no a x,q,b=>by
   simp only[cU]at b
   cases hx:cU cols row x with
   |inl f=>rw[hx]at b;cases b
   |inr c=>rw[hx]at b;cases b;exact eval_at q.2 hx
 |.not a x,q,b=>by
   simp only[cU]at b
   cases hx:cU cols row x with
   |inl f=>
     rw[hx]at b;simp only[sD,unO,OU]at b;split at b
     . cases b
     . cases b
   |inr c=>rw[hx]at b;cases b;exact eval_at q.2 hx
 |.neg a x,q,b=>by
   simp only[cU]at b
   cases hx:cU cols row x with
   |inl f=>
     rw[hx]at b;simp only[sD,unO,OU]at b;split at b
     . cases b
     . rw[acN b];exact q.1
   |inr c=>rw[hx]at b;cases b;exact eval_at q.2 hx
 |.two op a x y,q,b=>by
   simp only[cU]at b;have st:∀s,iO s (cU cols row x) (cU cols row y)=.inr d->d<=300:=λs b=>by
    unfold iO at b
    cases hx:cU cols row x with
    |inr c=>rw[hx]at b;cases b;exact eval_at q.2.1 hx
    |inl g=>
      rw[hx]at b;simp only at b;split at b
      . cases b
      . cases hy:cU cols row y with
        |inr c=>rw[hy]at b;cases b;exact eval_at q.2.2 hy
        |inl j=>
          rw[hy]at b;simp only at b;split at b
          . cases b
          . split at b
            . cases b
            . cases b
   split at b
   . exact st _ b
   . split at b
     . exact st _ b
     . cases hx:cU cols row x with
       |inr c=>rw[hx]at b;cases b;exact eval_at q.2.1 hx
       |inl g=>
         rw[hx]at b
         cases hy:cU cols row y with
         |inr c=>rw[hy]at b;cases b;exact eval_at q.2.2 hy
         |inl j=>
           rw[hy]at b;simp only[vI]at b;split at b
           . cases b
           . unfold FP at b
             split at b
             . cases b
             . rw[acN b];exact q.1
theorem I3{cols:List br}{c:zm}(a:lf cols c=.inl m):m.1≠0:=λb=>by
 cases c with
 |gB e f=>
   simp only[lf]at a;split at a
   . cases a
   . rename_i d;rw[lX a]at d;exact d b
 |mapA j=>exact Af a b
 |lA g=>cases a
 |fJ f=>cases a;simp at b
theorem I4:∀{ss:List mo} {cols:List br},(gC cols ss).1=0->gC cols ss=(0,0)
 |[],_,_=>rfl
 |s::l,cols,h=>by
   simp only[gC]at h ⊢;split at h
   . rename_i b a
     exact absurd h (I3 a)
   . exact I4 h
theorem Lk:∀{ss:List mo} {left:Int} {cols:List br} {R:List (List aD)} {a:Nat×Nat},sS left cols R ss=.inl a->a.1≠0
 |[],_,_,_,_,h=>by cases h
 |s::l,left,cols,R,a,h=>by
   simp only[sS]at h;split at h
   . cases h;simp
   . split at h
     . cases h;simp
     . split at h
       . rename_i c b;cases h;exact I3 b
       . exact Lk h
theorem Fo{cols:List br}{S:List (List aD)}{ss:List mo}(a:kh p t cols S ss=.inl m):m.1≠0:=by unfold kh at a;split at a;{cases a;simp};exact Lk a
def zA:zm->Prop
 |.gB e pl=>Il e/\pl<=300
 |.mapA rs=>∀r∈rs,r.1.2<=300/\Il r.2.1
 |.lA _=>True
 |.fJ pl=>pl<=300
theorem acO{cols:List br}{q:Nat×Nat}:∀{b:List A8} {l:List br},(∀a∈b,a.1.2<=300/\Il a.2.1)->fU cols b l=.inl q->q.1<10/\q.2<=300
 |[],_,_,h=>by cases h
 |a::b,l,p,h=>by
   simp only[fU]at h;split at h
   . cases h;exact⟨by simp,(p a (by simp)).1⟩
   . split at h
     . rename_i g c;cases h;exact xE (p a (by simp)).2 c
     . exact acO (λf d=>p f (by simp[d])) h
theorem Dn{cols:List br}{c:zm}(b:zA c)(a:lf cols c=.inl m):m.1<10/\m.2<=300:=by
 cases c with
 |gB e f=>
   simp only[lf]at a;split at a
   . cases a
   . cases a
     unfold oF;split
     . rename_i m d;exact xE b.1 d
     . split
       . exact⟨by simp,b.2⟩
       . exact⟨by simp,by simp⟩
 |mapA j=>exact acO b a
 |lA g=>cases a
 |fJ f=>cases a;exact⟨by simp,b⟩
theorem M7{f g:Type}{c:f->Nat ⊕ g}{d:Nat}:∀{l:List f},(∀b q,c b=.inl q->q<=300)->dG c l=.inl d->d<=300
 |[],_,h=>by cases h
 |b::l,k,h=>by
   simp only[dG]at h;split at h
   . rename_i q a;cases h;exact k _ _ a
   . split at h
     . rename_i q a;cases h;exact M7 k a
     . cases h
theorem Vp{o:dj}(a:qN o=.inl p):o=.inr p:=by cases o with|inl b=>cases a|inr q=>cases a;rfl
theorem af7{cols:List br}{R:List (List aD)}{d:zm}{q:Nat}(k:zA d)(a:oI cols R d=.inl q):q<=300:=by
 cases d with
 |gB e u=>
   simp only[oI,kD]at a;split at a
   . rename_i b n;cases a;exact M7 (λrow g c=>eval_at k.1 (Vp c)) n
   . cases a
 |mapA m=>
   simp only[oI]at a;refine M7 (λrow g c=>?_) a;unfold oN at c;have t:∀l:List A8,(∀b∈l,b∈m)->dG (λb:A8=>qN (cU cols row b.2.1)) l=.inl g->g<=300:=λl=>by
    induction l with
    |nil=>exactλ_ a=>by cases a
    |cons b l r=>
      intro j a;simp only[dG]at a;split at a
      . rename_i v f;cases a;exact eval_at (k b (j b (by simp))).2 (Vp f)
      . split at a
        . rename_i v f;cases a;exact r (λx p=>j x (by simp[p])) f
        . cases a
   exact t m (λ_ a=>a) c
 |lA y=>cases a
 |fJ u=>cases a
theorem PW:∀{ss:List mo} {cols:List br},(∀s∈ss,zA s.2)->(gC cols ss).1<10/\(gC cols ss).2<=300
 |[],_,_=>⟨by simp[gC],by simp[gC]⟩
 |s::l,cols,p=>by
   simp only[gC];split
   . rename_i d a;exact Dn (p s (by simp)) a
   . exact PW (λc b=>p c (by simp[b]))
theorem acP:∀{ss:List mo} {left:Int} {cols:List br} {R:List (List aD)} {a:Nat×Nat},(∀s∈ss,s.1<=300/\zA s.2)->sS left cols R ss=.inl a->a.1<=10/\a.2<=300
 |[],_,_,_,_,_,h=>by cases h
 |s::l,left,cols,R,a,p,h=>by
   simp only[sS]at h;split at h
   . rename_i q c;cases h;exact⟨by simp,af7 (p s (by simp)).2 c⟩
   . split at h
     . cases h;exact⟨by simp,(p s (by simp)).1⟩
     . split at h
       . rename_i g b;cases h;have:=Dn (p s (by simp)).2 b;exact⟨by omega,this.2⟩
       . exact acP (λf d=>p f (by simp[d])) h
theorem acQ{ss:List mo}{cols:List br}{R:List (List aD)}(c:∀s∈ss,s.1<=300/\zA s.2)(b:t<=300)(a:kh p t cols R ss=.inl m):m.1<=10/\m.2<=300:=by unfold kh at a;split at a;{cases a;exact⟨by simp,b⟩};exact acP c a
theorem Vq:∀{ss:List mo} {left:Int} {cols:List br} {R:List (List aD)} {a:List br×List (List aD)},(∀s∈ss,pE s.2)->oq cols->0<cols.length->fB cols R->R.length<=64->sS left cols R ss=.inr a->oq a.1/\0<a.1.length/\fB a.1 a.2/\a.2.length<=64
 |[],_,_,_,_,_,h1,h2,h3,h4,h=>by cases h;exact⟨h1,h2,h3,h4⟩
 |s::l,left,cols,R,a,p,h1,h2,h3,h4,h=>by
   simp only[sS]at h;split at h
   . cases h
   . rename_i R2 f
     split at h
     . cases h
     . split at h
       . cases h
       . rename_i k b
         have c:=p s (by simp);have d:=Iz c b h3 f;exact Vq (λj g=>p j (by simp[g])) (Pp c h1 b) (C9 c ⟨h2,h1.1⟩ b).1 d.1 (ag d.2 h4) h
theorem PY:∀{ss:List mo} {a b:Int} {cols:List br} {R:List (List aD)},a<=b->(∀c,sS a cols R ss=.inl c->c.1≠10)->sS b cols R ss=sS a cols R ss
 |[],_,_,_,_,_,_=>rfl
 |s::l,a,b,cols,R,F7,h=>by
   simp only[sS]at h ⊢
   cases hw:oI cols R s.2 with
   |inl g=>rfl
   |inr R2=>
     rw[hw]at h;simp only at h ⊢;by_cases d:a - (R2.length:Int)<0
     . rw[aF d]at h
       exact absurd rfl (h _ rfl)
     . rw[aE d]at h ⊢
       rw[aE (by omega)]
       cases ho:lf cols s.2 with
       |inl c=>rfl
       |inr f=>
         rw[ho]at h;exact PY (by omega) h
theorem M8:∀{ss:List mo} {left:Int} {cols:List br} {R:List (List aD)} {a:Nat×Nat} {b:Nat},(∀s∈ss,b<=s.1/\zA s.2)->sS left cols R ss=.inl a->a.1=10->b<=a.2
 |[],_,_,_,_,_,_,h,_=>by cases h
 |s::l,left,cols,R,a,b,k,h,DB=>by
   simp only[sS]at h;split at h
   . cases h;simp at DB
   . split at h
     . cases h;exact(k s (by simp)).1
     . split at h
       . rename_i g c;cases h;have:=(Dn (k s (by simp)).2 c).1;omega
       . exact M8 (λf d=>k f (by simp[d])) h DB
theorem Ll:∀{ss:List mo} {b c:Int} {cols:List br} {R:List (List aD)} {d f:Nat×Nat},b<=c->(∀s∈ss,zA s.2)->ss.Pairwise (λa u=>a.1<=u.1)->sS b cols R ss=.inl d->d.1=10->sS c cols R ss=.inl f->f.1=10->d.2<=f.2
 |[],_,_,_,_,_,_,_,_,_,h,_,_,_=>by cases h
 |s::l,b,c,cols,R,d,f,F7,k,hs,h,DB,h',acR=>by
   obtain⟨p,n⟩:=bk.mp hs;simp only[sS]at h h'
   cases hw:oI cols R s.2 with
   |inl v=>rw[hw]at h;cases h;simp at DB
   |inr R2=>
     rw[hw]at h h';simp only at h h';by_cases j:b - (R2.length:Int)<0
     . rw[aF j]at h
       cases h
       by_cases m:c - (R2.length:Int)<0
       . rw[aF m]at h';cases h';exact ae _
       . rw[aE m]at h'
         cases ho:lf cols s.2 with
         |inl t=>rw[ho]at h';cases h';have:=(Dn (k s (by simp)) ho).1;omega
         |inr r=>rw[ho]at h';exact M8 (λa g=>⟨p a g,k a (by simp[g])⟩) h' acR
     . rw[aE j]at h
       rw[aE (by omega)]at h'
       cases ho:lf cols s.2 with
       |inl t=>rw[ho]at h;cases h;have:=(Dn (k s (by simp)) ho).1;omega
       |inr r=>rw[ho]at h h';exact Ll (by omega) (λa g=>k a (by simp[g])) n h DB h' acR
theorem TQ{ss:List mo}{cols:List br}{R:List (List aD)}(d:p<=t)(a:∀b,kh p k cols R ss=.inl b->b.1≠10):kh t k cols R ss=kh p k cols R ss:=by unfold kh at a ⊢;by_cases c:(p:Int) - (R.length:Int)<0;{rw[aF c]at a;exact absurd rfl (a _ rfl)};rw[aE c]at a ⊢;rw[aE (by omega)];exact PY (by omega) a
theorem PZ{ss:List mo}{cols:List br}{R:List (List aD)}{c:Nat×Nat}(y:p<=t)(j:∀s∈ss,k<=s.1/\zA s.2)(u:ss.Pairwise (λd x=>d.1<=x.1))(b:kh p k cols R ss=.inl m)(r:m.1=10)(a:kh t k cols R ss=.inl c)(f:c.1=10):m.2<=c.2:=by unfold kh at b a;by_cases g:(p:Int) - (R.length:Int)<0;{rw[aF g]at b;cases b;by_cases n:(t:Int) - (R.length:Int)<0;{rw[aF n]at a;cases a;exact ae _};rw[aE n]at a;exact M8 j a f};rw[aE g]at b;rw[aE (by omega)]at a;exact Ll (by omega) (λd v=>(j d v).2) u b r a f
