import Derived.Test.YtcoaphfimellcaaGreatDoorQAE
import Derived.RangeFuncNested
import Derived.RangeFuncBound
set_option maxHeartbeats 0
set_option maxRecDepth 100000
namespace Go.Proofs.YtcoaphfimellcaaGreatDoor
open Go.RowKit
open Option renaming some→σ,none→ν
open Go.Ending renaming returned→τ
open Go renaming World→ω,Value→υ
open Go.RowKit renaming Below→δ
variable{w:ω}{p m:Nat}
structure nS (B:Nat)(W W':ω):Prop where
 os:W'.os=W.os
 tape:W'.tape=W.tape
 output:W'.output=W.output
 size:W.heap.size<=W'.heap.size
 eW:∀(k:Nat) (o:Obj),W.heap[k]?=σ o->k<B\/o.isCells=true->W'.heap[k]?=σ o
theorem nS.refl(b:Nat)(a:ω):nS b a a:=⟨rfl,rfl,rfl,ae _,λ_ _ c _=>c⟩
theorem nS.trans{b c:ω}(a:nS p w b)(d:nS p b c):nS p w c:=⟨d.os.trans a.os,d.tape.trans a.tape,d.output.trans a.output,ag a.size d.size,λf g i e=>d.eW f g (a.eW f g i e) e⟩
theorem nS.below{b:ω}(a:δ w.heap.size w b):nS p w b:=⟨a.os,a.tape,a.output,a.size,λd _ c _=>(a.block d (aw c)).trans c⟩
theorem nS.put{c:Obj}(g:Obj)(e:w.heap[m]?=σ c)(i:p<=m)(f:c.isCells=false):nS p w (w.putObj m g):=
 ⟨rfl,rfl,rfl,by simp,λj k b a=>(World.putObj_heap_other (λd=>by subst d;rw[e]at b;cases b;rcases a with a|a;omega;rw[f]at a;cases a)).trans b⟩
def anm(n:Nat)(P:Program)(gf:Nat)(lb:Array υ)(D:ω->Prop)(B:Nat->υ->ω->ω->Prop)(nx:Nat->Nat)(N:Nat):Prop:=
 ∀(l:Nat) (J:Nat->ω->Prop) (Jx:ω->Prop) (W:ω),(∀k W,J k W->D W)->(∀k W W',J k W->δ W.heap.size W W'->J k W')->(∀W W',Jx W->δ W.heap.size W W'->Jx W')->
   (∀k v W0 W1,J k W0->δ W0.heap.size W0 W1->k<N->B k v W0 W1->YieldAt Fence.wide (n - 1) P l #[v] W1 λe W'=>(e=τ (.bool true)/\J (nx k) W')\/(e=τ (.bool false)/\Jx W'))->
   J 0 W->CallsIn Fence.wide n P gf (#[.func (.yield l) #[] #[]]++lb) W λe W'=>(∃v,e=τ v)/\((∃k,N<=k/\J k W')\/Jx W')
def ajn(A:Nat)(J:ω->Prop)(Jx:Code->ω->Prop)(W:ω):Exit->Act->ω->Prop
 |.normal,_,W'=>KeepsFrom A W W'/\J W'
 |.ret,_,W'=>KeepsFrom A W W'/\Jx .ret W'
 |.exit i,_,W'=>KeepsFrom A W W'/\Jx (.exit i) W'
 |.goto t,_,W'=>KeepsFrom A W W'/\Jx (.goto t) W'
 |_,_,_=>False
theorem Gf{f:Program}{aa:Operand}{G:Tmp}{assign body:Code}{P:Exit->Act->ω->Prop}{v:Act}(Q:1<=p){M:Array υ}(hg:v.eval aa=.func (.func m) #[] M)(eg:∀Z w,(callFunc m Z).run f w=.ok (.enter m Z) w)
 {W:ω->Prop} {H:Nat->υ->ω->ω->Prop} {nx:Nat->Nat} {O:Nat} (am:anm (p - 1) f m M W H nx O)
 (s:Nat->ω->Prop) (D:Code->ω->Prop) (hD:∀b a,s b a->W a) (K:∀b a e,s b a->nS w.heap.size a e->s b e) (E:∀d a e,D d a->nS w.heap.size a e->D d e) (hB:∀b c t a e,H b c t a->nS w.heap.size a e->H b c t e) (h0:s 0 w) (a1:υ->Act)
 (ab:∀(U:Nat) (c:υ) (a:ω) (Y:Act->ω->Prop),Y (a1 c) a->assign.wpIn (Fence.wide.inRound U) (p - 1 - 1) f (Exit.then Y (λ_ _ _=>False)) { tmps:=(#[G].zip #[c]).foldl (λr (G,c)=>r.setIfInBounds G c) v.tmps,defers:=[] } a)
 (ac:∀(U b:Nat) (c:υ) (t a:ω),s b t->nS w.heap.size t a->b<O->H b c t a->body.wpIn (Fence.wide.inRound U) (p - 1 - 1) f (ajn w.heap.size (s (nx b)) D a) (a1 c) a)
 (ad:∀(x b:Nat) (a:ω),w.heap.size<=x->O<=b->s b a->a.heap[x]?=σ (.deferred (σ []))->P .normal { v with defers:={ target:=.collected x,args:=#[] }::v.defers } a)
 (al:∀(x:Nat) (d:Code) (a:ω),w.heap.size<=x->D d a->a.heap[x]?=σ (.deferred (σ []))->d.wpIn Fence.wide p f P { v with defers:={ target:=.collected x,args:=#[] }::v.defers } a) :
 (Code.rangeFunc aa #[G] assign body).wpIn Fence.wide p f P v w:=by
 refine wpIn_rangeFunc λfn an=>?_;obtain⟨g,n⟩:=nm (λao I=>{ state:=ao,pending:=I,fn:=fn,tmps:=v.tmps,params:=#[G],assign:=assign,body:=body,defers:=w.heap.size }:LoopState->Option Code->Loop);obtain⟨i,N⟩:∃i,(w.alloc (.deferred (σ []))).alloc (.loop (g .ready ν))=i:=⟨_,rfl⟩;have cx:δ w.heap.size w i:=by rw[<- N];exact((ah _ w).alloc (ae _) _).alloc (by simp) _
 have qh:i.heap[w.heap.size+1]?=σ (.loop (g .ready ν)):=by rw[<- N];have:=au (w.alloc (.deferred (σ []))) (.loop (g .ready ν));rwa[rj]at this
 have Qu:i.heap[w.heap.size]?=σ (.deferred (σ [])):=by rw[<- N];exact(ct _ _ _ (by simp)).trans (au w _)
 refine⟨w.heap.size+1,[{ target:=.collected w.heap.size,args:=#[] }],i,{ target:=.fn (.func m) M,args:=#[.func (.yield (w.heap.size+1)) #[] #[]] },i,m,#[.func (.yield (w.heap.size+1)) #[] #[]]++M,i,?_,?_,λ_ _=>trivial,?_,λ_=>Q,?_⟩;{rw[<- N,n];exact run_enterLoop_outer _ _ _ _ _};{simp only[resolve,hg];simp[go_sem]};{simp[invoke,go_sem,eg]}
 refine(am (w.heap.size+1) (λb a=>s b a/\a.heap[w.heap.size+1]?=σ (.loop (g .ready ν))/\a.heap[w.heap.size]?=σ (.deferred (σ [])))
  (λa=>∃d,D d a/\a.heap[w.heap.size+1]?=σ (.loop (g .done (σ d)))/\a.heap[w.heap.size]?=σ (.deferred (σ []))) i (λb a o=>hD b a o.1)
  (λb a e o A=>⟨K b a e o.1 (.below A),(A.block _ (aw o.2.1)).trans o.2.1,(A.block _ (aw o.2.2)).trans o.2.2⟩)
  (λa e o A=>by obtain⟨d,Q,h2,h3⟩:=o;exact⟨d,E d a e Q (.below A),(A.block _ (aw h2)).trans h2,(A.block _ (aw h3)).trans h3⟩)
  ?_ ⟨K 0 w i h0 (.below cx),qh,Qu⟩).mono ?_
 .rintro b c t a ⟨yG,X,yK⟩ V cL hv
  have j:=(V.block _ (aw X)).trans X;have F:=(V.block _ (aw yK)).trans yK;have hy:=run_yield (P:=f) (args:=#[c]) j (by rw[n];rfl);rw[n]at hy;have ht:nS w.heap.size a (a.putObj (w.heap.size+1) (.loop { g .ready ν with state:=.busy })):=.put _ j (by omega) rfl;refine⟨fn,_,assign,body,hy,roundIn_of_wpIn an (ab _ c a _ ⟨_,run_beginRound j (by rw[n]),wpIn_mono (ac _ b c t _ yG ((nS.below V).trans ht) cL (hB b c _ _ _ hv ht)) ?_⟩)⟩;have yo:(a.putObj (w.heap.size+1) (.loop { g .ready ν with state:=.busy })).heap[w.heap.size+1]?=σ (.loop { g .ready ν with state:=.busy }):=World.putObj_heap_same (aw j);have np:(a.putObj (w.heap.size+1) (.loop { g .ready ν with state:=.busy })).heap[w.heap.size]?=σ (.deferred (σ [])):=(World.putObj_heap_other (by omega)).trans F;have fin:∀(C:Option Code) (l:ω),KeepsFrom w.heap.size (a.putObj (w.heap.size+1) (.loop { g .ready ν with state:=.busy })) l->
   ∃u,(Instr.endRound (w.heap.size+1) C).run f l=.ok (.bool C.isNone) u/\nS w.heap.size l u/\u.heap[w.heap.size+1]?=σ (.loop (g (if C.isNone then .ready else .done) C))/\u.heap[w.heap.size]?=σ (.deferred (σ [])):=λC l yB=>by
   have L:=yB.same _ _ (by omega) yo rfl;have:=run_endRound (P:=f) C L;rw[n]at this L ⊢;exact⟨_,this,.put _ L (by omega) rfl,World.putObj_heap_same (aw L),(World.putObj_heap_other (by omega)).trans (yB.same _ _ (ae _) np rfl)⟩
  rintro I a3 l k
  cases I with
  |normal=>
    obtain⟨u,B,r,y,z⟩:=fin ν l k.1;exact⟨_,_,B,.inl ⟨rfl,K _ _ _ k.2 r,y,z⟩⟩
  |ret=>
    obtain⟨u,B,r,y,z⟩:=fin (σ .ret) l k.1;exact⟨_,_,B,.inr ⟨rfl,_,E _ _ _ k.2 r,y,z⟩⟩
  |exit T=>
    obtain⟨u,B,r,y,z⟩:=fin (σ (.exit T)) l k.1;exact⟨_,_,B,.inr ⟨rfl,_,E _ _ _ k.2 r,y,z⟩⟩
  |goto T=>
    obtain⟨u,B,r,y,z⟩:=fin (σ (.goto T)) l k.1;exact⟨_,_,B,.inr ⟨rfl,_,E _ _ _ k.2 r,y,z⟩⟩
  |panic d=>exact k.elim
  |outgrown=>exact k.elim
 rintro I W2 ⟨⟨c,rfl⟩,⟨b,hN,R,j,F⟩|⟨d,R,j,F⟩⟩;{exact⟨ν,_,by have:=run_endLoop (P:=f) j (by rw[n];simp);rw[n]at this;exact this,ad _ b _ (ae _) hN (K _ _ _ R (.put _ j (by omega) rfl)) ((World.putObj_heap_other (by omega)).trans F)⟩};exact⟨σ d,_,by have:=run_endLoop (P:=f) j (by rw[n];simp);rw[n]at this;exact this,al _ d _ (ae _) (E _ _ _ R (.put _ j (by omega) rfl)) ((World.putObj_heap_other (by omega)).trans F)⟩
