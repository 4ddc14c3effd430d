import Derived.Test.YtcoaphfimellcaaGreatDoorFAD
import Derived.Deep.DeepCutAuto
set_option maxHeartbeats 0
set_option maxRecDepth 100000
namespace Go.Proofs.YtcoaphfimellcaaGreatDoor
open Go.RowKit
open _root_.Go.Proofs.Tryz
open Go.IntKind renaming i64→κ
open Go.Value renaming int→ι
variable{w:TypeId}{p:World}{m:Nat}{x:Int}
abbrev Vs(e p:Int):Value:=.agg #[.int .i64 e,.int .i64 p]
theorem Vt{a:World}{b:Nat}{z:TypeId}{x:Int}(n p d q:Int)(m:a.heap[b]?=some (.cells #[ι κ x] z (0,0)))(C:(d != 0)=true) :
 Calls prog 93 #[.pointer (some (Ad b 0)),.agg #[ι κ n,ι κ p,ι κ d,ι κ q]] a λo A=>o=.returned (Vs d q)/\Below a.heap.size a A:=by
 have w:=gT a (obY n p d q) (iQ 0 0);have c:=au w;have r:=au m;have B:=ay m;go_in;go_wp2_with fail;refine(K9 _ _ _).mono ?_;rintro o K ⟨rfl,g⟩;have l:=c.J.1.trans (g.mono c.J.1.size);have f:=(g.block _ (by simp;omega)).trans c.J.2.2;have e:=(g.block _ (by simp)).trans c.J.2.1;have i:=(l.block b B).trans r.J;have s:=cell0 f 0;have t:=cell0 f 1;have u:=cell0 f 2;have v:=cell0 f 3;have j:=cell0 e 0;have k:=cell0 e 1;have L:=fP e 0;have M:=fP e 1;have y:=cell0 i 0;have H:=fP i 0;simp only[List.getElem?_toArray,List.getElem?_cons_zero,List.getElem?_cons_succ]at s t u v j k y;have D:=au i;have I:¬(a.heap.size+1=b):=by omega
 have F:¬(b=a.heap.size+1):=by omega
 have E:¬(a.heap.size=b):=by omega
 have G:¬(b=a.heap.size):=by omega
 go_wp2_with fail;refine aD (v:=_) (by simp[results,results93,go_sem,j,k];rfl) rfl ?_;exact⟨rfl,(l.setCell (p:=(Ad (a.heap.size+1) 0)) (bF _) _).setCell (p:=(Ad (a.heap.size+1) 1)) (bF _) _⟩
theorem Z8{a:World}{b:Nat}{r:TypeId}{e:Int}(x d:Int)(w:a.heap[b]?=some (.cells #[ι κ e] r (0,0)))(h0:-100000<=e/\e<=100000)(h1:0<=d/\d<=100000) :
 Calls prog 93 #[.pointer (some (Ad b 0)),.agg #[ι κ x,ι κ d,ι κ 0,ι κ 0]] a λC D=>Hid (C=.returned (if e - d<0 then Vs 10 x else Vs 0 0)/\D.heap[b]?=some (.cells #[ι κ (e - d)] r (0,0))/\aY (λc=>c<a.heap.size/\c≠b) a D):=by
 have A:=gT a (obY x d 0 0) (iQ 0 0);have m:=au A;have G:=au w;have T:=ay w;clear w A;go_in;go_wp2_with fail;refine(K9 _ _ _).mono ?_;rintro C u ⟨rfl,i⟩;have j:=m.J.1.trans (i.mono m.J.1.size);have g:=(i.block _ (by simp;omega)).trans m.J.2.2;have f:=(i.block _ (by simp)).trans m.J.2.1;have p:=(j.block b T).trans G.J;have v:=cell0 g 0;have K:=cell0 g 1;have L:=cell0 g 2;have M:=cell0 g 3;have n:=cell0 f 0;have o:=cell0 f 1;have U:=fP f 0;have V:=fP f 1;have P:=cell0 p 0;have f0:=fP p 0;simp only[List.getElem?_toArray,List.getElem?_cons_zero,List.getElem?_cons_succ]at v K L M n o P;have H:=au p;have E:=au f;have F:=au g;have O:¬(a.heap.size+1=b):=by omega
 have X:¬(b=a.heap.size+1):=by omega
 have I:¬(a.heap.size=b):=by omega
 have Z:¬(b=a.heap.size):=by omega
 have W:IntKind.i64.wrap (e - d)=e - d:=by rw[kq];omega
 clear i g f p;go_wp2_with fail;go_cut[] (λR=>R=u.drew.setCell (Ad b 0) (ι κ (e - d)));(case first=>go_region;(all_goals(try go_wp2_with fail));(all_goals go_meet);all_goals rfl);case rest=>
  have B:=aQ u.drew b 0 _ _ (ι κ (e - d)) H.J;have k:Hid (wc.heap[b]?=some (.cells #[ι κ (e - d)] r (0,0))/\aY (λc=>c<a.heap.size/\c≠b) a wc/\∀c,c≠b->wc.heap[c]?=u.heap[c]?):=au ⟨by rw[hcut];exact B,by rw[hcut];exact aY.setCell (K:=λc=>c<a.heap.size/\c≠b) (p:=(Ad b 0)) (show aY _ a u.drew from⟨j.os,j.tape,j.output,j.size,λc i=>j.block c i.1⟩) (λl=>l.2 rfl) _,λc i=>by rw[hcut];exact az _ _ _ _ i⟩;have z:=au k.J.1;have Q:=cell0 z.J 0;have f:=k.J.2.2 (a.heap.size+1) O |>.trans E.J;have g:=k.J.2.2 a.heap.size I |>.trans F.J;have n:=cell0 f 0;have o:=cell0 f 1;have U:=fP f 0;have V:=fP f 1;have v:=cell0 g 0;simp only[List.getElem?_toArray,List.getElem?_cons_zero,List.getElem?_cons_succ]at v n o Q;have y:Hid (∀s t,((wc.setCell (Ad (a.heap.size+1) 0) s).setCell (Ad (a.heap.size+1) 1) t).heap[b]?=some (.cells #[ι κ (e - d)] r (0,0))/\aY (λc=>c<a.heap.size/\c≠b) a ((wc.setCell (Ad (a.heap.size+1) 0) s).setCell (Ad (a.heap.size+1) 1) t)):=au λs t=>⟨(az _ _ _ _ (show b≠a.heap.size+1 by omega)).trans ((az _ _ _ _ (show b≠a.heap.size+1 by omega)).trans z.J),(k.J.2.1.setCell (p:=(Ad (a.heap.size+1) 0)) (λl=>by have:=l.1;simp at this;omega) s).setCell (p:=(Ad (a.heap.size+1) 1)) (λl=>by have:=l.1;simp at this;omega) t⟩;clear hcut B f g k;by_cases N:e - d<0;case' neg=>have Y:¬(e - d<0):=N
  all_goals
   go_wp2_with fail;(try simp only[Exit.inBlock,Exit.then]);refine aD (v:=_) (by simp[results,results93,go_sem,n,o];rfl) rfl ?_;first
    |exact au ⟨rfl,y.J _ _⟩
    |exact au ⟨rfl,(y.J (ι κ 0) (ι κ 0)).1,(y.J (ι κ 0) (ι κ 0)).2⟩
