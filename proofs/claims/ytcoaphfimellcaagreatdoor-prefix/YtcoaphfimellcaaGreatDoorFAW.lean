import Derived.Test.YtcoaphfimellcaaGreatDoorFAU
import Derived.OrdersHeld
import Derived.OrdersIn
set_option maxHeartbeats 0
set_option maxRecDepth 100000
namespace Go.Proofs.YtcoaphfimellcaaGreatDoor
open Go.RowKit
open Option renaming some→σ,none→ν
open Go renaming World→ω,Value→υ
variable{p x:Nat}{m:ω}
def Xm(ops:Array Oper):Bool:=ops.toList.all λo=>match o.op with
 |.defer _=>false
 |_=>true
section
variable {P:Program} {o:Oper} {ops:Array Oper} {a:Act} {w:ω} {K:Act->ω->Prop} {Q:Exit->Act->ω->Prop} {l n:Nat} {md:Region.Mode}
theorem ac7(g:∀c,o.op≠.defer c)(b:o.wp P a w K Q):o.wpIn (Fence.wide.inRound l) n P a w K Q:=by
 refine⟨λ_ _=>trivial,?_⟩;show o.uponIn _ _ _ _ _ _ ((o.semAt (σ l) a.eval).run P w);rw[lf l _ _ g];unfold Oper.wp at b;generalize (execOp a.eval o).run P w=r at *;cases r with
 |ok e d=>
  cases e<;>simp only[Oper.upon,Oper.uponIn]at b ⊢<;>first
   |exact b
   |exact⟨(λb=>nomatch b),CallsIn.inRound l (kD.2 b)⟩
   |exact⟨(λb=>nomatch b),λc f _=>let⟨v,d,r,s⟩:=b c f;⟨v,d,r,stepsIn_wide.2 s⟩⟩
   |exact b.elim
 |halt e d=>cases e<;>simp only[Oper.upon,Oper.uponIn]at b ⊢<;>first|exact b|exact b.elim
theorem A7(f:Xm ops=true)(e:¬LetsOut Q):∀(c:Nat) (i:Array Bool) (a:Act) (w:ω),wpAny P md ops Q c i a w->wpAnyIn (Fence.wide.inRound l) n P md ops Q c i a w
 |0,_,_,_,d=>d
 |c+1,i,a,w,d=>⟨d.1,λj m=>by
   have b:=d.2 j m;unfold wpOp at b;unfold wpOpIn
   cases ho:ops[j]? with
   |none=>rw[ho]at b;exact A7 f e c _ a w b
   |some o=>
     simp only[ho]at b ⊢;split
     . rename_i g
       rw[aF g]at b;rcases b with b|b
       . refine Oper.wpIn_mono (λa w d=>A7 f e c _ a w d) (ac7 (λp k=>?_) b)
         have:=eV.mp f o (by have:=rM ho;simpa using this);rw[k]at this
         cases this
       . exact absurd b.2 e
     . rename_i g
       rw[aE g]at b;exact⟨λ_ _=>trivial,A7 f e c _ _ w b⟩⟩
theorem tW{id m:Nat}{ls:Array Bool}(f:P.follows .mixedOrders=true)(d:Xm ops=true)(c:¬LetsOut Q)(g:ops.size=m)(e:Array.replicate ops.size false=ls)(b:wpAny P .any ops Q m ls a w.drew):(Code.region id ops true).wpIn (Fence.wide.inRound l) n P Q a w:=by subst g e;exact wpIn_region_any f (A7 d c _ _ _ _ b)
end
def ame(P:Program)(fn:Func)(R:Ending->ω->Prop):Exit->Act->ω->Prop
 |.normal,a,w=>LeavesInM Fence.wide 9 P fn a.tmps R a.defers .returning w
 |.ret,a,w=>LeavesInM Fence.wide 9 P fn a.tmps R a.defers .returning w
 |_,_,_=>False
theorem vM{P:Program}{f:FuncId}{fn:Func}{e:Code}{c:Array υ}{w:ω}{d:Ending->ω->Prop}(j:P.funcs[f]?=σ fn)(i:fn.body=σ e)(b:e.wp P (ame P fn d) { tmps:=c++Array.replicate (fn.ntmps - c.size) undef,defers:=[] } w):Calls P f c w d:=
 kD.1 (callsIn_of_wp_marks j i trivial (xw.2 (wp_mono b λg a w b=>by cases g<;>first|exact b|exact b.elim)) rfl)
def Marks(B:Nat)(w:ω)(ds:List Deferred):Prop:=(∀d∈ds,∃r,d={ target:=.collected r,args:=#[] }/\B<=r/\w.heap[r]?=σ (.deferred (σ [])))/\ds.Pairwise (λd e=>d.target≠e.target)
theorem Marks.nil(b:Nat)(w:ω):Marks b w []:=⟨λ_ c=>(by cases c),List.Pairwise.nil⟩
theorem Marks.one{w:ω}(d:p<=x)(c:w.heap[x]?=σ (.deferred (σ []))):Marks p w [{ target:=.collected x,args:=#[] }]:=⟨λe b=>by rw[a6]at b;exact⟨x,b,d,c⟩,kU _ _⟩
theorem Marks.move{w:ω}{c:List Deferred}(d:Marks p w c)(k:∀b,p<=b->w.heap[b]?=σ (.deferred (σ []))->m.heap[b]?=σ (.deferred (σ []))):Marks p m c:=
 ⟨λf j=>by obtain⟨b,g,e,i⟩:=d.1 f j;exact⟨b,g,e,k b e i⟩,d.2⟩
theorem sS{P:Program}{fn:Func}{j:Array υ}{c:Ending->ω->Prop}{n B:Nat}:∀{ds:List Deferred} {w:ω},Marks B w ds->(∀b,oC B w b->∃k,(results fn j).run P b=.ok k b/\c (.returned k) b)->LeavesInM Fence.wide n P fn j c ds .returning w
 |[],w,_,h=>h w (oC.refl B w)
 |d::ds,w,hm,h=>by
   obtain⟨i,rfl,u,g⟩:=hm.1 d (dw ..);have f:=bj.mp hm.2;have v:oC B w (w.putObj i (.deferred ν)):=.put _ g u rfl;exact⟨by simp,.inl ⟨i,_,rfl,run_takeDeferred g,sS (ds:=ds) ⟨λm e=>by
    obtain⟨x,rfl,s,t⟩:=hm.1 m (cz _ e);exact⟨x,rfl,s,(World.putObj_heap_other (λp=>f.1 _ e (by rw[p]))).trans t⟩,f.2⟩ (λb r=>h b (v.trans r))⟩⟩
structure aqF (B rb rc:Nat)(X Z:ω)(x y u v:υ)(t s:TypeId):Prop where
 b1:Z.heap[rb]?=σ (.cells #[x,y] t (0,0))
 b2:Z.heap[rc]?=σ (.cells #[u,v] s (0,0))
 rest:∀b,b≠rb->b≠rc->Z.heap[b]?=X.heap[b]?
 size:X.heap.size<=Z.heap.size
 low:∀a,Below B a X->Below B a Z
theorem adz{B rb rc:Nat}{C D k p x y u v:υ}{e d:TypeId}(z:m.heap[rb]?=σ (.cells #[C,D] e (0,0)))(A:m.heap[rc]?=σ (.cells #[k,p] d (0,0)))(b:rc≠rb)(f:B<=rb)(g:B<=rc):aqF B rb rc m ((((m.setCell ⟨rb,0,ν⟩ x).setCell ⟨rb,1,ν⟩ y).setCell ⟨rc,0,ν⟩ u).setCell ⟨rc,1,ν⟩ v) x y u v e d:=by have r:((m.setCell ⟨rb,0,ν⟩ x).setCell ⟨rb,1,ν⟩ y).heap[rb]?=σ (.cells #[x,y] e (0,0)):=aQ _ rb 1 _ _ _ (aQ _ rb 0 _ _ _ z);have s:((m.setCell ⟨rb,0,ν⟩ x).setCell ⟨rb,1,ν⟩ y).heap[rc]?=σ (.cells #[k,p] d (0,0)):=(az _ _ _ _ b).trans ((az _ _ _ _ b).trans A);exact⟨(az _ _ _ _ (λc=>b c.symm)).trans ((az _ _ _ _ (λc=>b c.symm)).trans r),aQ _ rc 1 _ _ _ (aQ _ rc 0 _ _ _ s),λE i j=>(az _ _ _ _ j).trans ((az _ _ _ _ j).trans ((az _ _ _ _ i).trans (az _ _ _ _ i))),by simp[World.setCell],λa t=>(((t.setCell f _).setCell f _).setCell g _).setCell g _⟩
def Z3(t:Array υ):List (Nat×υ)->Array υ
 |[]=>t
 |x::l=>Z3 (t.setIfInBounds x.1 x.2) l
def Z4(a:Act)(slots:List Nat)(us:List υ)(ds:List Deferred):Act:=⟨Z3 a.tmps (slots.zip us),ds⟩
theorem MG(b:Array υ):∀e:List Nat,Z3 b (e.zip (e.map λc=>b.getD c undef))=b
 |[]=>rfl
 |c::l=>by
   simp only[List.map_cons,List.zip_cons_cons,Z3];have:b.setIfInBounds c (b.getD c undef)=b:=by
    apply nK;intro g;rw[tI];split
    . rename_i f
      subst f;split
      . rename_i d;simp[d]
      . rename_i d;simp[d]
    . rfl
   rw[this];exact MG b l
theorem Vq{P:Program}{Q:Exit->Act->ω->Prop}{j:Code}{a:Act}{w:ω}(d:List Nat)(J:List υ->List Deferred->ω->Prop)(i:Act->Nat)(p:J (d.map λt=>a.tmps.getD t undef) a.defers w)
 (round:∀b c e,b.length=d.length->J b c e->j.wp P (Exit.then (λf m=>(∃g k,g.length=d.length/\f=Z4 a d g k/\J g k m)/\i f<i (Z4 a d b c)) Q) (Z4 a d b c) e):(Code.loop j).wp P Q a w:=by refine wp_loop (λf e=>∃b c,b.length=d.length/\f=Z4 a d b c/\J b c e) (λa _=>i a) ⟨_,a.defers,by simp,?_,p⟩ ?_;{unfold Z4;rw[MG]};rintro f e ⟨b,c,s,rfl,r⟩;exact round b c e s r
theorem Marks.cons{w:ω}{d:List Deferred}(e:Marks p w d)(i:p<=x)(j:w.heap[x]?=σ (.deferred (σ [])))(k:∀b∈d,∀f,b.target=.collected f->f<x):Marks p w ({ target:=.collected x,args:=#[] }::d):=by refine⟨λb c=>?_,bj.mpr ⟨λb c g=>?_,e.2⟩⟩;{rcases bq.mp c with rfl|c;{exact⟨x,rfl,i,j⟩};exact e.1 b c};have:=k b c x g.symm;omega
theorem Marks.lt{w:ω}{d:List Deferred}(e:Marks p w d):∀b∈d,∀c,b.target=.collected c->c<w.heap.size:=λb g c i=>by
 obtain⟨j,rfl,-,f⟩:=e.1 b g
 cases i
 exact(dq.mp f).1
theorem Marks.from{w:ω}{b:List Deferred}(c:Marks p w b)(d:x<=p)(f:KeepsFrom x w m):Marks p m b:=c.move λi g e=>f.same i _ (ag d g) e rfl
theorem Marks.turn{w:ω}{d:List Deferred}(e:Marks p w d)(k:oC x w m)(j:∀c∈d,∀b,c.target=.collected b->b<x):Marks p m d:=
 ⟨λc f=>by obtain⟨b,rfl,g,i⟩:=e.1 c f;exact⟨b,rfl,g,k.fQ b _ i (.inl (j _ f b rfl))⟩,e.2⟩
