import Derived.Test.YtcoaphfimellcaaGreatDoorFAD
import Derived.RangeFuncNested
import Derived.RangeFuncBound
set_option maxHeartbeats 0
set_option maxRecDepth 100000
namespace Go.Proofs.YtcoaphfimellcaaGreatDoor
open Go.RowKit
open Option renaming some→σ,none→ν
open Go renaming World→ω,Value→υ
variable{w:ω}{p m:Nat}
structure oC (B:Nat)(W W':ω):Prop where
 os:W'.os=W.os
 tape:W'.tape=W.tape
 output:W'.output=W.output
 size:W.heap.size<=W'.heap.size
 fQ:∀(k:Nat) (o:Obj),W.heap[k]?=σ o->k<B\/o.isCells=true->W'.heap[k]?=σ o
theorem oC.refl(b:Nat)(a:ω):oC b a a:=⟨rfl,rfl,rfl,ae _,λ_ _ c _=>c⟩
theorem oC.trans{b c:ω}(a:oC p w b)(d:oC p b c):oC p w c:=⟨d.os.trans a.os,d.tape.trans a.tape,d.output.trans a.output,ag a.size d.size,λf g i e=>d.fQ f g (a.fQ f g i e) e⟩
theorem oC.below{b:ω}(a:Below w.heap.size w b):oC p w b:=⟨a.os,a.tape,a.output,a.size,λd _ c _=>(a.block d (ay c)).trans c⟩
theorem oC.put{c:Obj}(g:Obj)(e:w.heap[m]?=σ c)(i:p<=m)(f:c.isCells=false):oC p w (w.putObj m g):=
 ⟨rfl,rfl,rfl,by simp,λj k b a=>(World.putObj_heap_other (λd=>by subst d;rw[e]at b;cases b;rcases a with a|a;omega;rw[f]at a;cases a)).trans b⟩
def ap2(n:Nat)(P:Program)(gf:Nat)(lb:Array υ)(D:ω->Prop)(B:Nat->υ->ω->ω->Prop)(nx:Nat->Nat)(N:Nat):Prop:=
 ∀(l:Nat) (J:Nat->ω->Prop) (Jx:ω->Prop) (W:ω),(∀k W,J k W->D W)->(∀k W W',J k W->Below W.heap.size W W'->J k W')->(∀W W',Jx W->Below W.heap.size W W'->Jx W')->
   (∀k v W0 W1,J k W0->Below W0.heap.size W0 W1->k<N->B k v W0 W1->YieldAt Fence.wide (n - 1) P l #[v] W1 λe W'=>(e=.returned (.bool true)/\J (nx k) W')\/(e=.returned (.bool false)/\Jx W'))->
   J 0 W->CallsIn Fence.wide n P gf (#[.func (.yield l) #[] #[]]++lb) W λe W'=>(∃v,e=.returned v)/\((∃k,N<=k/\J k W')\/Jx W')
def amb(A:Nat)(J:ω->Prop)(Jx:Code->ω->Prop)(W:ω):Exit->Act->ω->Prop
 |.normal,_,W'=>KeepsFrom A W W'/\J W'
 |.ret,_,W'=>KeepsFrom A W W'/\Jx .ret W'
 |.exit i,_,W'=>KeepsFrom A W W'/\Jx (.exit i) W'
 |.goto t,_,W'=>KeepsFrom A W W'/\Jx (.goto t) W'
 |_,_,_=>False
theorem Hs{f:Program}{ac:Operand}{G:Tmp}{assign body:Code}{P:Exit->Act->ω->Prop}{v:Act}(Q:1<=p){M:Array υ}(hg:v.eval ac=.func (.func m) #[] M)(eg:∀ab w,(callFunc m ab).run f w=.ok (.enter m ab) w)
 {Y:ω->Prop} {H:Nat->υ->ω->ω->Prop} {nx:Nat->Nat} {O:Nat} (ao:ap2 (p - 1) f m M Y H nx O)
 (s:Nat->ω->Prop) (D:Code->ω->Prop) (hD:∀b a,s b a->Y a) (K:∀b a e,s b a->oC w.heap.size a e->s b e) (E:∀d a e,D d a->oC w.heap.size a e->D d e) (hB:∀b c t a e,H b c t a->oC w.heap.size a e->H b c t e) (h0:s 0 w) (a1:υ->Act)
 (ad:∀(U:Nat) (c:υ) (a:ω) (aa:Act->ω->Prop),aa (a1 c) a->assign.wpIn (Fence.wide.inRound U) (p - 1 - 1) f (Exit.then aa (λ_ _ _=>False)) { tmps:=(#[G].zip #[c]).foldl (λr (G,c)=>r.setIfInBounds G c) v.tmps,defers:=[] } a)
 (al:∀(U b:Nat) (c:υ) (t a:ω),s b t->oC w.heap.size t a->b<O->H b c t a->body.wpIn (Fence.wide.inRound U) (p - 1 - 1) f (amb w.heap.size (s (nx b)) D a) (a1 c) a)
 (am:∀(x b:Nat) (a:ω),w.heap.size<=x->O<=b->s b a->a.heap[x]?=σ (.deferred (σ []))->P .normal { v with defers:={ target:=.collected x,args:=#[] }::v.defers } a)
 (an:∀(x:Nat) (d:Code) (a:ω),w.heap.size<=x->D d a->a.heap[x]?=σ (.deferred (σ []))->d.wpIn Fence.wide p f P { v with defers:={ target:=.collected x,args:=#[] }::v.defers } a) :
 (Code.rangeFunc ac #[G] assign body).wpIn Fence.wide p f P v w:=by
 refine wpIn_rangeFunc λfn ap=>?_;obtain⟨g,o⟩:=nm (λaq I=>{ state:=aq,pending:=I,fn:=fn,tmps:=v.tmps,params:=#[G],assign:=assign,body:=body,defers:=w.heap.size }:LoopState->Option Code->Loop);obtain⟨i,N⟩:∃i,(w.alloc (.deferred (σ []))).alloc (.loop (g .ready ν))=i:=⟨_,rfl⟩;have cG:Below w.heap.size w i:=by rw[<- N];exact((ah _ w).alloc (ae _) _).alloc (by simp) _
 have qI:i.heap[w.heap.size+1]?=σ (.loop (g .ready ν)):=by rw[<- N];have:=ak (w.alloc (.deferred (σ []))) (.loop (g .ready ν));rwa[r9]at this
 have Tp:i.heap[w.heap.size]?=σ (.deferred (σ [])):=by rw[<- N];exact(cw _ _ _ (by simp)).trans (ak w _)
 refine⟨w.heap.size+1,[{ target:=.collected w.heap.size,args:=#[] }],i,{ target:=.fn (.func m) M,args:=#[.func (.yield (w.heap.size+1)) #[] #[]] },i,m,#[.func (.yield (w.heap.size+1)) #[] #[]]++M,i,?_,?_,λ_ _=>trivial,?_,λ_=>Q,?_⟩;{rw[<- N,o];exact run_enterLoop_outer _ _ _ _ _};{simp only[resolve,hg];simp[go_sem]};{simp[invoke,go_sem,eg]}
 refine(ao (w.heap.size+1) (λb a=>s b a/\a.heap[w.heap.size+1]?=σ (.loop (g .ready ν))/\a.heap[w.heap.size]?=σ (.deferred (σ [])))
  (λa=>∃d,D d a/\a.heap[w.heap.size+1]?=σ (.loop (g .done (σ d)))/\a.heap[w.heap.size]?=σ (.deferred (σ []))) i (λb a n=>hD b a n.1)
  (λb a e n A=>⟨K b a e n.1 (.below A),(A.block _ (ay n.2.1)).trans n.2.1,(A.block _ (ay n.2.2)).trans n.2.2⟩)
  (λa e n A=>by obtain⟨d,Q,h2,h3⟩:=n;exact⟨d,E d a e Q (.below A),(A.block _ (ay h2)).trans h2,(A.block _ (ay h3)).trans h3⟩)
  ?_ ⟨K 0 w i h0 (.below cG),qI,Tp⟩).mono ?_
 .rintro b c t a ⟨zr,Z,W⟩ V cQ hv;have j:=(V.block _ (ay Z)).trans Z;have F:=(V.block _ (ay W)).trans W;have hy:=run_yield (P:=f) (args:=#[c]) j (by rw[o];rfl);rw[o]at hy;have ht:oC w.heap.size a (a.putObj (w.heap.size+1) (.loop { g .ready ν with state:=.busy })):=.put _ j (by omega) rfl;refine⟨fn,_,assign,body,hy,roundIn_of_wpIn ap (ad _ c a _ ⟨_,run_beginRound j (by rw[o]),wpIn_mono (al _ b c t _ zr ((oC.below V).trans ht) cQ (hB b c _ _ _ hv ht)) ?_⟩)⟩;have Aa:(a.putObj (w.heap.size+1) (.loop { g .ready ν with state:=.busy })).heap[w.heap.size+1]?=σ (.loop { g .ready ν with state:=.busy }):=World.putObj_heap_same (ay j);have np:(a.putObj (w.heap.size+1) (.loop { g .ready ν with state:=.busy })).heap[w.heap.size]?=σ (.deferred (σ [])):=(World.putObj_heap_other (by omega)).trans F;have fin:∀(C:Option Code) (l:ω),KeepsFrom w.heap.size (a.putObj (w.heap.size+1) (.loop { g .ready ν with state:=.busy })) l->
   ∃u,(Instr.endRound (w.heap.size+1) C).run f l=.ok (.bool C.isNone) u/\oC w.heap.size l u/\u.heap[w.heap.size+1]?=σ (.loop (g (if C.isNone then .ready else .done) C))/\u.heap[w.heap.size]?=σ (.deferred (σ [])):=λC l X=>by
   have L:=X.same _ _ (by omega) Aa rfl;have:=run_endRound (P:=f) C L;rw[o]at this L ⊢;exact⟨_,this,.put _ L (by omega) rfl,World.putObj_heap_same (ay L),(World.putObj_heap_other (by omega)).trans (X.same _ _ (ae _) np rfl)⟩
  rintro I a3 l k;cases I with|normal=>(obtain⟨u,B,r,y,z⟩:=fin ν l k.1;exact⟨_,_,B,.inl ⟨rfl,K _ _ _ k.2 r,y,z⟩⟩)|ret=>(obtain⟨u,B,r,y,z⟩:=fin (σ .ret) l k.1;exact⟨_,_,B,.inr ⟨rfl,_,E _ _ _ k.2 r,y,z⟩⟩)|exit T=>(obtain⟨u,B,r,y,z⟩:=fin (σ (.exit T)) l k.1;exact⟨_,_,B,.inr ⟨rfl,_,E _ _ _ k.2 r,y,z⟩⟩)|goto T=>(obtain⟨u,B,r,y,z⟩:=fin (σ (.goto T)) l k.1;exact⟨_,_,B,.inr ⟨rfl,_,E _ _ _ k.2 r,y,z⟩⟩)|panic d=>exact k.elim|outgrown=>exact k.elim
 rintro I W2 ⟨⟨c,rfl⟩,⟨b,hN,R,j,F⟩|⟨d,R,j,F⟩⟩;{exact⟨ν,_,by have:=run_endLoop (P:=f) j (by rw[o];simp);rw[o]at this;exact this,am _ b _ (ae _) hN (K _ _ _ R (.put _ j (by omega) rfl)) ((World.putObj_heap_other (by omega)).trans F)⟩};exact⟨σ d,_,by have:=run_endLoop (P:=f) j (by rw[o];simp);rw[o]at this;exact this,an _ d _ (ae _) (E _ _ _ R (.put _ j (by omega) rfl)) ((World.putObj_heap_other (by omega)).trans F)⟩
