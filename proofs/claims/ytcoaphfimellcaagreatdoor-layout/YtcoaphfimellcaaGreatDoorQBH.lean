import Derived.Test.YtcoaphfimellcaaGreatDoorQAE
import Derived.Deep.DeepCutAuto
set_option maxHeartbeats 0
set_option maxRecDepth 100000
namespace Go.Proofs.YtcoaphfimellcaaGreatDoor
open Go.RowKit
open _root_.Go.Proofs.Tryz
open Option renaming some→σ
open Go.IntKind renaming i64→κ
open Go.Ending renaming returned→τ
open Go.Obj renaming cells→ξ
open Go renaming World→ω
open Go.RowKit renaming Below→δ
open Go.Value renaming int→ι,pointer→π,agg→χ
variable{w:TypeId}{p:ω}{m:Nat}{x:Int}
abbrev Tc(e p:Int):Value:=.agg #[.int .i64 e,.int .i64 p]
theorem Td{a:ω}{b:Nat}{z:TypeId}{x:Int}(n p d q:Int)(m:a.heap[b]?=σ (ξ #[ι κ x] z (0,0)))(C:(d != 0)=true) :
 Calls prog 93 #[π (σ (Ad b 0)),χ #[ι κ n,ι κ p,ι κ d,ι κ q]] a λo B=>o=τ (Tc d q)/\δ a.heap.size a B:=by
 have w:=fX a (obY n p d q) (gY 0 0);have c:=ak w;have r:=ak m;have A:=aw m;go_in;go_wp2_with fail;refine(JC _ _ _).mono ?_;rintro o K ⟨rfl,g⟩;have l:=c.J.1.trans (g.mono c.J.1.size);have f:=(g.block _ (by simp;omega)).trans c.J.2.2;have e:=(g.block _ (by simp)).trans c.J.2.1;have i:=(l.block b A).trans r.J;have s:=cell0 f 0;have t:=cell0 f 1;have u:=cell0 f 2;have v:=cell0 f 3;have j:=cell0 e 0;have k:=cell0 e 1;have L:=eR e 0;have M:=eR e 1;have y:=cell0 i 0;have H:=eR i 0;simp only[List.getElem?_toArray,List.getElem?_cons_zero,List.getElem?_cons_succ]at s t u v j k y;have D:=ak i;have I:¬(a.heap.size+1=b):=by omega
 have F:¬(b=a.heap.size+1):=by omega
 have E:¬(a.heap.size=b):=by omega
 have G:¬(b=a.heap.size):=by omega
 go_wp2_with fail;refine aB (v:=_) (by simp[results,results93,go_sem,j,k];rfl) rfl ?_;exact⟨rfl,(l.setCell (p:=(Ad (a.heap.size+1) 0)) (bE _) _).setCell (p:=(Ad (a.heap.size+1) 1)) (bE _) _⟩
theorem XD{a:ω}{b:Nat}{r:TypeId}{e:Int}(x d:Int)(w:a.heap[b]?=σ (ξ #[ι κ e] r (0,0)))(h0:-100000<=e/\e<=100000)(h1:0<=d/\d<=100000) :
 Calls prog 93 #[π (σ (Ad b 0)),χ #[ι κ x,ι κ d,ι κ 0,ι κ 0]] a λC D=>Hid (C=τ (if e - d<0 then Tc 10 x else Tc 0 0)/\D.heap[b]?=σ (ξ #[ι κ (e - d)] r (0,0))/\aX (λc=>c<a.heap.size/\c≠b) a D):=by
 have A:=fX a (obY x d 0 0) (gY 0 0);have m:=ak A;have G:=ak w;have R:=aw w;clear w A;go_in;go_wp2_with fail;refine(JC _ _ _).mono ?_;rintro C u ⟨rfl,i⟩;have j:=m.J.1.trans (i.mono m.J.1.size);have g:=(i.block _ (by simp;omega)).trans m.J.2.2;have f:=(i.block _ (by simp)).trans m.J.2.1;have p:=(j.block b R).trans G.J;have v:=cell0 g 0;have K:=cell0 g 1;have L:=cell0 g 2;have M:=cell0 g 3;have n:=cell0 f 0;have o:=cell0 f 1;have U:=eR f 0;have V:=eR f 1;have P:=cell0 p 0;have f0:=eR p 0;simp only[List.getElem?_toArray,List.getElem?_cons_zero,List.getElem?_cons_succ]at v K L M n o P;have H:=ak p;have E:=ak f;have F:=ak g;have O:¬(a.heap.size+1=b):=by omega
 have X:¬(b=a.heap.size+1):=by omega
 have I:¬(a.heap.size=b):=by omega
 have Y:¬(b=a.heap.size):=by omega
 have W:IntKind.i64.wrap (e - d)=e - d:=by rw[jC];omega
 clear i g f p;go_wp2_with fail;go_cut[] (λT=>T=u.drew.setCell (Ad b 0) (ι κ (e - d)));(case first=>go_region;(all_goals(try go_wp2_with fail));(all_goals go_meet);all_goals rfl);case rest=>
  have B:=aN u.drew b 0 _ _ (ι κ (e - d)) H.J;have k:Hid (wc.heap[b]?=σ (ξ #[ι κ (e - d)] r (0,0))/\aX (λc=>c<a.heap.size/\c≠b) a wc/\∀c,c≠b->wc.heap[c]?=u.heap[c]?):=ak ⟨by rw[hcut];exact B,by rw[hcut];exact aX.setCell (K:=λc=>c<a.heap.size/\c≠b) (p:=(Ad b 0)) (show aX _ a u.drew from⟨j.os,j.tape,j.output,j.size,λc i=>j.block c i.1⟩) (λl=>l.2 rfl) _,λc i=>by rw[hcut];exact ay _ _ _ _ i⟩;have z:=ak k.J.1;have Q:=cell0 z.J 0;have f:=k.J.2.2 (a.heap.size+1) O |>.trans E.J;have g:=k.J.2.2 a.heap.size I |>.trans F.J;have n:=cell0 f 0;have o:=cell0 f 1;have U:=eR f 0;have V:=eR f 1;have v:=cell0 g 0;simp only[List.getElem?_toArray,List.getElem?_cons_zero,List.getElem?_cons_succ]at v n o Q;have y:Hid (∀s t,((wc.setCell (Ad (a.heap.size+1) 0) s).setCell (Ad (a.heap.size+1) 1) t).heap[b]?=σ (ξ #[ι κ (e - d)] r (0,0))/\aX (λc=>c<a.heap.size/\c≠b) a ((wc.setCell (Ad (a.heap.size+1) 0) s).setCell (Ad (a.heap.size+1) 1) t)):=ak λs t=>⟨(ay _ _ _ _ (show b≠a.heap.size+1 by omega)).trans ((ay _ _ _ _ (show b≠a.heap.size+1 by omega)).trans z.J),(k.J.2.1.setCell (p:=(Ad (a.heap.size+1) 0)) (λl=>by have:=l.1;simp at this;omega) s).setCell (p:=(Ad (a.heap.size+1) 1)) (λl=>by have:=l.1;simp at this;omega) t⟩;clear hcut B f g k;by_cases N:e - d<0;case' neg=>have Z:¬(e - d<0):=N
  all_goals
   go_wp2_with fail;(try simp only[Exit.inBlock,Exit.then]);refine aB (v:=_) (by simp[results,results93,go_sem,n,o];rfl) rfl ?_;first
    |exact ak ⟨rfl,y.J _ _⟩
    |exact ak ⟨rfl,(y.J (ι κ 0) (ι κ 0)).1,(y.J (ι κ 0) (ι κ 0)).2⟩
