import Derived.Test.YtfeckmaleonjjaaGreatDoorFCD
import Derived.Lib.OwnKind
set_option maxHeartbeats 0
set_option maxRecDepth 100000
namespace Go.Proofs.YtfeckmaleonjjaaGreatDoor
open List renaming length→Λ
open Go.RowKit
open _root_.Go.Proofs.Tryz
open Option renaming some→σ
open Go.Ending renaming returned→τ
open Go renaming World→ω
open Go.Value renaming int→ι,string→θ,slice→ψ,pointer→π
variable{w:Δ UInt8}{p v:ω}{m x:Nat}
theorem Tryz.sizeBuilder:(prog.info? 254).map (·.size)=σ 2:=by kernel_rfl
theorem Tryz.liesBuilder:liesAt prog prog.depth 254 (2 / prog.cellsOf 254) 0 254 1=true:=by kernel_rfl
theorem Tryz.MG:(prog.info? 5).map (λa=>(a.zero,a.size,a.bytes))=σ (σ (ι .u8 0),1,1):=by kernel_rfl
theorem Tryz.cellsByte:prog.cellsOf 5=1:=by kernel_rfl
abbrev OX(B b:Nat)(l:Δ UInt8)(w:World):Prop:=Lib.IsBuilder 254 5 B b (Lib.byteCells l) w
def tM(B b:Nat)(w w':ω):Prop:=Below B w w'/\Lib.OthersKept 5 (σ b) w w'
theorem tM.trans{b:Nat}{d:ω}(a:tM m b p v)(c:tM m b v d):tM m b p d:=⟨a.1.trans c.1,a.2.trans c.2⟩
theorem tM.refl(b c:Nat)(a:ω):tM b c a a:=⟨aj _ _,Lib.OthersKept.refl _ _ _⟩
theorem OX.aU(e:OX m x w p)(c:Below p.heap.size p v):OX m x w v:=by have d:∀a,Lib.BuilderAt 254 5 m x a (Lib.byteCells w) p->Lib.BuilderAt 254 5 m x a (Lib.byteCells w) v:=λa ⟨f,j,b,g,i⟩=>⟨f,j,(c.block x (aA b)).trans b,cO g c,i⟩;exact e.imp (d _) (d _)
theorem ac4(b:Nat)(a:ω)(f:a.cell? (Ad b 0)=σ (π (σ (Ad b 0)))) :
 Calls prog 162 #[π (σ (Ad b 0))] a λc e=>c=τ (.tuple #[])/\e=a:=by have⟨g,d,_⟩:=fJ.1 Tryz.sizeBuilder;go_in;go_wp2;rw[Lib.run_neq_ptr_same a _ underlying251 d];go_wp2;go_end0;exact⟨rfl,rfl⟩
theorem Zg(a:Nat)(b:ω)(i:b.cell? (Ad a 0)=σ (.pointer none))(d:b.shape? a=σ (254,2))(j:b.frozen? (Ad a 0)=false) :
 Calls prog 162 #[π (σ (Ad a 0))] b λe g=>e=τ (.tuple #[])/\g=b.setCell (Ad a 0) (π (σ (Ad a 0))):=by have⟨k,c,f⟩:=fJ.1 Tryz.sizeBuilder;go_in;go_wp2;rw[Lib.run_to_unsafe b (Ad a 0) underlying251 underlying330 c (by rw[f];decide) d (Nat.zero_lt_succ 1)];simp only[Result.andThen];rw[Oper.upon_value];go_wp2;rw[run_callFunc_extern func187 (by kernel_rfl) (by kernel_rfl) (by kernel_rfl) (e:=Extern.AbiNoEscape.same) (by kernel_rfl)];rw[Lib.run_noEscape];simp only[Result.andThen];rw[Oper.upon_value];go_wp2;rw[Lib.run_from_unsafe b (Ad a 0) underlying330 underlying251 c d Tryz.liesBuilder];simp only[Result.andThen];rw[Oper.upon_value];go_wp2;go_end0;exact⟨rfl,rfl⟩
theorem MH(d b:Nat)(bs:Δ Value)(c:ω)(a:Lib.IsBuilder 254 5 d b bs c) :
 Calls prog 162 #[π (σ (Ad b 0))] c λf e=>f=τ (.tuple #[])/\Lib.BuilderAt 254 5 d b (π (σ (Ad b 0))) bs e/\tM d b c e:=by rcases a with a|a;{refine(Zg b c a.cell0 a.shape a.frozen0).mono ?_;rintro f e ⟨rfl,rfl⟩;exact⟨rfl,a.used _,(aj d c).setCell (p:=(Ad b 0)) a.1 _,(Lib.OthersKept.refl _ _ c).setCell (Ad b 0) rfl _⟩};refine(ac4 b c a.cell0).mono ?_;rintro f e ⟨rfl,rfl⟩;exact⟨rfl,a,tM.refl d _ _⟩
theorem OX.of(a:Lib.BuilderAt 254 5 m x (π (σ (Ad x 0))) (Lib.byteCells w) p):OX m x w p:=.inr a
theorem xH{b c:Value}{w:ω}(a:w.heap[m]?=σ (.cells #[b,c] 254 (0,0))):w.cell? (Ad m 0)=σ b/\w.cell? (Ad m 1)=σ c/\w.frozen? (Ad m 1)=false/\m<w.heap.size:=
 ⟨by rw[Lib.cell_of_heap a];rfl,by rw[Lib.cell_of_heap a];rfl,Lib.frozen_of_heap a 1,aA a⟩
theorem Ep(a:UInt8)(r:OX m x w v)(ab:Λ w<=1000000)(aa:m<=v.heap.size) :
 Calls prog 117 #[π (σ (Ad x 0)),ι .u8 a.toNat] v λe u=>e=τ .nilIface/\OX m x (w++[a]) u/\tM m x v u:=by have⟨H,E,N,O,M⟩:=gq Tryz.MG;have A:=MH m x _ v r;clear r;go_in;go_wp21;refine A.mono ?_;rintro e y ⟨rfl,⟨s,R,d,p,K⟩,o,P⟩;obtain⟨V,X,-,D⟩:=xH d;have U:=o.size;have n:(Lib.byteCells w).length=Λ w:=Lib.byteCells_length w;have i:=p.alloc (.cells #[ι .u8 a.toNat] 5);have C:=ak d;have z:=ak n;clear d p n;go_wp2_with(at_builtin;refine ef _ rfl _ _ 252 rfl m 5 H (ι .u8 0) 1 1 underlying252 E N O M rfl (by decide) _ _ _ rfl i (Ad y.heap.size 0) 1 1 [ι .u8 a.toNat] rfl rfl (λI Q g=>by match I,g with|0,g=>simp at g;subst g;simp[Addr.add]) (λQ t=>by simp at t;subst t;rfl) (by rw[z.J];unfold maxLen;omega) (by rw[z.J];omega) (by simp;omega) ?_);intro T l k f _;have d:=C.J;have j:l.heap[x]?=σ (.cells #[π (σ (Ad x 0)),R] 254 (0,0)):=(by rw[f.block x (by simp;omega) (λe=>K e.symm),Lib.alloc_old y _ x D];exact d);obtain⟨Y,Z,f1,-⟩:=xH j;obtain⟨c,b,rfl⟩:∃c b,T=ψ (σ (Ad c 0)) ((Lib.byteCells w).length+1) b:=(by rcases k.2 with⟨_,h0⟩|⟨c,b,cur,G,_⟩;{omega};exact⟨c,b,G⟩);have B:Hid (OX m x (w++[a]) (l.setCell (Ad x 1) (ψ (σ (Ad c 0)) ((Lib.byteCells w).length+1) b))/\tM m x v (l.setCell (Ad x 1) (ψ (σ (Ad c 0)) ((Lib.byteCells w).length+1) b))):=ak ⟨OX.of (Lib.BuilderAt.put (T:=254) (e:=5) s j (bs':=Lib.byteCells (w++[a])) (by simpa[Lib.byteCells]using k) (by decide)),((o.alloc (by omega) _).grown f (by simp;omega) (λL F=>(i.lt L F).1)).setCell (p:=(Ad x 1)) s _,((P.alloc _).grown f (Lib.ownsRow_kind i)).setCell (Ad x 1) rfl _⟩;clear j d k f;go_wp2;go_ret;exact⟨rfl,B.J⟩
theorem N5(a:Γ)(B:OX m x w v)(Y:Λ w<=1000000)(Z:a.size<=1000000)(X:m<=v.heap.size) :
 Calls prog 116 #[π (σ (Ad x 0)),θ a] v λb r=>b=τ (.tuple #[.int .i64 a.size,.nilIface])/\OX m x (w++a.data.toList) r/\tM m x v r:=by
 have⟨E,C,I,K,H⟩:=gq Tryz.MG;have t:=MH m x _ v B;go_in;go_wp21;refine t.mono ?_;rintro b w1 ⟨rfl,⟨o,M,f,A,F⟩,l,L⟩;obtain⟨P,Q,-,z⟩:=xH f;have O:=l.size;have s:=ak (Lib.byteCells_length w);have g:=A;have y:=ak f;go_wp2_with(at_builtin;refine Lib.wpList_append_own_string _ rfl _ _ 252 9 rfl m 5 E underlying252 underlying9 C I K H _ _ _ rfl g a rfl (by rw[s.J];unfold maxLen;omega) (by rw[s.J];omega) (by omega) ?_);intro N k p i _;have f:=y.J;have n:k.heap[x]?=σ (.cells #[π (σ (Ad x 0)),M] 254 (0,0)):=(by rw[i.block x z (λb=>F b.symm)];exact f);obtain⟨R,T,U,-⟩:=xH n;obtain⟨d,e,c,rfl⟩:∃d e c,N=ψ d e c:=(by rcases p.2 with⟨j,_⟩|⟨V,c,cur,j,_⟩;{exact⟨_,_,_,j⟩};exact⟨_,_,_,j⟩)
 have u:Hid (OX m x (w++a.data.toList) (k.setCell (Ad x 1) (ψ d e c))/\tM m x v (k.setCell (Ad x 1) (ψ d e c))):=ak ⟨OX.of (Lib.BuilderAt.put (T:=254) (e:=5) o n (bs':=Lib.byteCells (w++a.data.toList)) (by
  have b:Lib.byteCells (w++a.data.toList)=Lib.byteCells w++Lib.strCells a:=by simp[Lib.byteCells,Lib.strCells]
  rw[b];simpa[Lib.strCells_length]using p) (by decide)),(l.grown i (by omega) (λG D=>(g.lt G D).1)).setCell (p:=(Ad x 1)) o _,(L.grown i (Lib.ownsRow_kind g)).setCell (Ad x 1) rfl _⟩
 go_wp2;go_ret2;exact⟨rfl,u.J⟩
theorem ac5{e f:Nat}{a:Δ UInt8}{c:ω}(g:OX e f a c)(j:a≠[])(H:Λ a<=1000000) :
 Calls prog 119 #[π (σ (Ad f 0))] c λo y=>o=τ (θ ⟨a.toArray⟩)/\Below e c y:=by
 obtain⟨k,D,x,A,i,K⟩:∃k,Lib.BuilderAt 254 5 e f k (Lib.byteCells a) c:=by rcases g with g|g<;>exact⟨_,g⟩
 have n:Λ a≠0:=by simpa using j
 rw[Lib.byteCells_length]at i;obtain⟨b,d,cur,rfl,p,r,I,B,G,-⟩:∃b d cur,x=ψ (σ (Ad b 0)) (Λ a) d/\e<=b/\c.heap[b]?=σ (.cells cur 5 (0,0))/\(Λ a)<=d/\d<=maxLen/\cur.size=d*1/\cur.toList.take (Λ a*1)=Lib.byteCells a:=(by rcases i.2 with⟨_,u⟩|⟨b,d,cur,s,w⟩;{exact absurd u n};exact⟨b,d,cur,s,w⟩);have C:c.drew.cell? (Ad f 1)=σ (ψ (σ (Ad b 0)) (Λ a) d):=(xH (w:=c.drew) A).2.1;have E:(Builtin.unsafeSliceData_ #[252] 308 #[ψ (σ (Ad b 0)) (Λ a) d]).run prog c.drew=.ok (π (σ (Ad b 0))) c.drew:=Lib.run_unsafeSliceData_row _ _ _ _ _ _ (by omega);have F:(Builtin.unsafeString_ #[308,3] 9 #[π (σ (Ad b 0)),.int .i64 (Λ a)]).run prog c.drew=.ok (θ ⟨a.toArray⟩) (c.drew.freeze (Ad b 0) (Λ a)):=
  Lib.run_unsafeString_row c.drew 308 3 9 5 underlying308 Tryz.cellsByte b cur.size (by have l:c.drew.heap[b]?=σ (.cells cur 5 (0,0)):=r;simp[World.shape?,l]) a j (by omega) (by omega) (λv z t=>i.cells (g:=b) rfl v (ι .u8 z.toNat) (by simp[Lib.byteCells,t]))
 have m:=Lib.below_freeze (Below.drew (aj e c)) (p:=(Ad b 0)) p (Λ a);go_in;go_wp2;go_region;all_goals (try go_wp2);go_ret;exact⟨rfl,m⟩
