import Derived.Test.YtcoaphfimellcaaGreatDoorQAY
import Derived.Lib.OwnKind
set_option maxHeartbeats 0
set_option maxRecDepth 100000
namespace Go.Proofs.YtcoaphfimellcaaGreatDoor
open Go.RowKit
open _root_.Go.Proofs.Tryz
open Option renaming some→σ,none→ν
open Go.IntKind renaming i64→κ
open Go.Ending renaming returned→τ
open Go.Obj renaming cells→ξ
open Go renaming World→ω,Value→υ
open Go.RowKit renaming Below→δ
open Go.Value renaming int→ι,string→θ,slice→ψ,pointer→π
variable{w:List UInt8}{p v:ω}{m x:Nat}
theorem Tryz.sizeBuilder:(prog.info? 220).map (·.size)=σ 2:=by kernel_rfl
theorem Tryz.liesBuilder:liesAt prog prog.depth 220 (2 / prog.cellsOf 220) 0 220 1=true:=by kernel_rfl
theorem Tryz.K7:(prog.info? 5).map (λa=>(a.zero,a.size,a.bytes))=σ (σ (ι .u8 0),1,1):=by kernel_rfl
theorem Tryz.cellsByte:prog.cellsOf 5=1:=by kernel_rfl
abbrev Nq(B b:Nat)(l:List UInt8)(w:World):Prop:=Lib.IsBuilder 220 5 B b (Lib.byteCells l) w
def rR(B b:Nat)(w w':ω):Prop:=δ B w w'/\Lib.OthersKept 5 (σ b) w w'
theorem rR.trans{b:Nat}{d:ω}(a:rR m b p v)(c:rR m b v d):rR m b p d:=⟨a.1.trans c.1,a.2.trans c.2⟩
theorem rR.refl(b c:Nat)(a:ω):rR b c a a:=⟨ah _ _,Lib.OthersKept.refl _ _ _⟩
theorem Nq.below(e:Nq m x w p)(c:δ p.heap.size p v):Nq m x w v:=by have d:∀a,Lib.BuilderAt 220 5 m x a (Lib.byteCells w) p->Lib.BuilderAt 220 5 m x a (Lib.byteCells w) v:=λa ⟨f,j,b,g,i⟩=>⟨f,j,(c.block x (aw b)).trans b,cq g c,i⟩;exact e.imp (d _) (d _)
theorem abH(b:Nat)(a:ω)(f:a.cell? (Ad b 0)=σ (π (σ (Ad b 0)))) :
 Calls prog 130 #[π (σ (Ad b 0))] a λc e=>c=τ (.tuple #[])/\e=a:=by obtain⟨g,d,_⟩:=dF.1 Tryz.sizeBuilder;go_in;go_wp2;rw[Lib.run_neq_ptr_same a _ underlying218 d];go_wp2;go_end0;exact⟨rfl,rfl⟩
theorem XE(a:Nat)(b:ω)(i:b.cell? (Ad a 0)=σ (π ν))(d:b.shape? a=σ (220,2))(j:b.frozen? (Ad a 0)=false) :
 Calls prog 130 #[π (σ (Ad a 0))] b λe g=>e=τ (.tuple #[])/\g=b.setCell (Ad a 0) (π (σ (Ad a 0))):=by obtain⟨k,c,f⟩:=dF.1 Tryz.sizeBuilder;go_in;go_wp2;rw[Lib.run_to_unsafe b (Ad a 0) underlying218 underlying305 c (by rw[f];decide) d (Nat.zero_lt_succ 1)];simp only[Result.andThen];rw[Oper.upon_value];go_wp2;rw[run_callFunc_extern func158 (by kernel_rfl) (by kernel_rfl) (by kernel_rfl) (e:=Extern.AbiNoEscape.same) (by kernel_rfl)];rw[Lib.run_noEscape];simp only[Result.andThen];rw[Oper.upon_value];go_wp2;rw[Lib.run_from_unsafe b (Ad a 0) underlying305 underlying218 c d Tryz.liesBuilder];simp only[Result.andThen];rw[Oper.upon_value];go_wp2;go_end0;exact⟨rfl,rfl⟩
theorem K8(d b:Nat)(bs:List υ)(c:ω)(a:Lib.IsBuilder 220 5 d b bs c) :
 Calls prog 130 #[π (σ (Ad b 0))] c λf e=>f=τ (.tuple #[])/\Lib.BuilderAt 220 5 d b (π (σ (Ad b 0))) bs e/\rR d b c e:=by rcases a with a|a;{refine(XE b c a.cell0 a.shape a.frozen0).mono ?_;rintro f e ⟨rfl,rfl⟩;exact⟨rfl,a.used _,(ah d c).setCell (p:=(Ad b 0)) a.1 _,(Lib.OthersKept.refl _ _ c).setCell (Ad b 0) rfl _⟩};refine(abH b c a.cell0).mono ?_;rintro f e ⟨rfl,rfl⟩;exact⟨rfl,a,rR.refl d _ _⟩
theorem Nq.of(a:Lib.BuilderAt 220 5 m x (π (σ (Ad x 0))) (Lib.byteCells w) p):Nq m x w p:=.inr a
theorem vZ{b c:υ}{w:ω}(a:w.heap[m]?=σ (ξ #[b,c] 220 (0,0))):w.cell? (Ad m 0)=σ b/\w.cell? (Ad m 1)=σ c/\w.frozen? (Ad m 1)=false/\m<w.heap.size:=
 ⟨by rw[Lib.cell_of_heap a];rfl,by rw[Lib.cell_of_heap a];rfl,Lib.frozen_of_heap a 1,aw a⟩
theorem Dc(a:UInt8)(r:Nq m x w v)(ab:w.length<=1000000)(aa:m<=v.heap.size) :
 Calls prog 97 #[π (σ (Ad x 0)),ι .u8 a.toNat] v λf y=>f=τ .nilIface/\Nq m x (w++[a]) y/\rR m x v y:=by obtain⟨I,F,N,O,M⟩:=iC Tryz.K7;have B:=K8 m x _ v r;clear r;go_in;go_wp2_with fail;refine B.mono ?_;rintro f z ⟨rfl,⟨s,R,d,o,E⟩,p,P⟩;obtain⟨V,W,-,D⟩:=vZ d;have U:=p.size;have t:(Lib.byteCells w).length=w.length:=Lib.byteCells_length w;have i:=o.alloc (ξ #[ι .u8 a.toNat] 5);have A:=ak d;have n:=ak t;clear d o t;go_wp2_with(at_builtin;refine qC _ rfl _ _ 68 rfl m 5 I (ι .u8 0) 1 1 underlying68 F N O M rfl (by decide) _ _ _ rfl i (Ad z.heap.size 0) 1 1 [ι .u8 a.toNat] rfl rfl (λK Q g=>by match K,g with|0,g=>simp at g;subst g;simp[Addr.add]) (λQ u=>by simp at u;subst u;rfl) (by rw[n.J];unfold maxLen;omega) (by rw[n.J];omega) (by simp;omega) ?_);intro T l k e _;have d:=A.J;have j:l.heap[x]?=σ (ξ #[π (σ (Ad x 0)),R] 220 (0,0)):=(by rw[e.block x (by simp;omega) (λf=>E f.symm),Lib.alloc_old z _ x D];exact d);obtain⟨X,Y,Z,-⟩:=vZ j;obtain⟨c,b,rfl⟩:∃c b,T=ψ (σ (Ad c 0)) ((Lib.byteCells w).length+1) b:=(by rcases k.2 with⟨_,h0⟩|⟨c,b,cur,H,_⟩;{omega};exact⟨c,b,H⟩);have C:Hid (Nq m x (w++[a]) (l.setCell (Ad x 1) (ψ (σ (Ad c 0)) ((Lib.byteCells w).length+1) b))/\rR m x v (l.setCell (Ad x 1) (ψ (σ (Ad c 0)) ((Lib.byteCells w).length+1) b))):=ak ⟨Nq.of (Lib.BuilderAt.put (T:=220) (e:=5) s j (bs':=Lib.byteCells (w++[a])) (by simpa[Lib.byteCells]using k) (by decide)),((p.alloc (by omega) _).grown e (by simp;omega) (λL G=>(i.lt L G).1)).setCell (p:=(Ad x 1)) s _,((P.alloc _).grown e (Lib.ownsRow_kind i)).setCell (Ad x 1) rfl _⟩;clear j d k e;go_wp2_with fail;go_ret;exact⟨rfl,C.J⟩
theorem MK(a:ByteArray)(s:Nq m x w v)(X:w.length<=1000000)(Y:a.size<=1000000)(W:m<=v.heap.size) :
 Calls prog 96 #[π (σ (Ad x 0)),θ a] v λb u=>b=τ (.tuple #[ι κ a.size,.nilIface])/\Nq m x (w++a.data.toList) u/\rR m x v u:=by
 obtain⟨F,D,I,K,H⟩:=iC Tryz.K7;have z:=K8 m x _ v s;clear s;go_in;go_wp2_with fail;refine z.mono ?_;rintro b Z ⟨rfl,⟨t,M,c,p,C⟩,r,L⟩;obtain⟨P,Q,-,B⟩:=vZ c;have O:=r.size;have o:=ak (Lib.byteCells_length w);have i:=p;have y:=ak c;clear c p;go_wp2_with(at_builtin;refine Lib.wpList_append_own_string _ rfl _ _ 68 9 rfl m 5 F underlying68 underlying9 D I K H _ _ _ rfl i a rfl (by rw[o.J];unfold maxLen;omega) (by rw[o.J];omega) (by omega) ?_);intro N n l f _;have c:=y.J;have j:n.heap[x]?=σ (ξ #[π (σ (Ad x 0)),M] 220 (0,0)):=(by rw[f.block x B (λb=>C b.symm)];exact c);obtain⟨R,T,U,-⟩:=vZ j;obtain⟨e,g,d,rfl⟩:∃e g d,N=ψ e g d:=(by rcases l.2 with⟨k,_⟩|⟨V,d,cur,k,_⟩;{exact⟨_,_,_,k⟩};exact⟨_,_,_,k⟩)
 have A:Hid (Nq m x (w++a.data.toList) (n.setCell (Ad x 1) (ψ e g d))/\rR m x v (n.setCell (Ad x 1) (ψ e g d))):=ak ⟨Nq.of (Lib.BuilderAt.put (T:=220) (e:=5) t j (bs':=Lib.byteCells (w++a.data.toList)) (by
  have b:Lib.byteCells (w++a.data.toList)=Lib.byteCells w++Lib.strCells a:=by simp[Lib.byteCells,Lib.strCells]
  rw[b];simpa[Lib.strCells_length]using l) (by decide)),(r.grown f (by omega) (λG E=>(i.lt G E).1)).setCell (p:=(Ad x 1)) t _,(L.grown f (Lib.ownsRow_kind i)).setCell (Ad x 1) rfl _⟩
 clear j c l f;go_wp2_with fail;go_ret2;exact⟨rfl,A.J⟩
theorem abI{e f:Nat}{a:List UInt8}{c:ω}(i:Nq e f a c)(j:a≠[])(I:a.length<=1000000) :
 Calls prog 99 #[π (σ (Ad f 0))] c λr z=>r=τ (θ ⟨a.toArray⟩)/\δ e c z:=by
 obtain⟨l,E,y,m,g,D⟩:∃l,Lib.BuilderAt 220 5 e f l (Lib.byteCells a) c:=by rcases i with i|i<;>exact⟨_,i⟩
 have n:a.length≠0:=by simpa using j
 rw[Lib.byteCells_length]at g;obtain⟨b,d,cur,rfl,s,k,K,B,H,-⟩:∃b d cur,y=ψ (σ (Ad b 0)) a.length d/\e<=b/\c.heap[b]?=σ (ξ cur 5 (0,0))/\a.length<=d/\d<=maxLen/\cur.size=d*1/\cur.toList.take (a.length*1)=Lib.byteCells a:=(by rcases g.2 with⟨_,v⟩|⟨b,d,cur,t,x⟩;{exact absurd v n};exact⟨b,d,cur,t,x⟩);have C:c.drew.cell? (Ad f 1)=σ (ψ (σ (Ad b 0)) a.length d):=(vZ (w:=c.drew) m).2.1;have F:(Builtin.unsafeSliceData_ #[68] 276 #[ψ (σ (Ad b 0)) a.length d]).run prog c.drew=.ok (π (σ (Ad b 0))) c.drew:=Lib.run_unsafeSliceData_row _ _ _ _ _ _ (by omega);have G:(Builtin.unsafeString_ #[276,3] 9 #[π (σ (Ad b 0)),ι κ a.length]).run prog c.drew=.ok (θ ⟨a.toArray⟩) (c.drew.freeze (Ad b 0) a.length):=
  Lib.run_unsafeString_row c.drew 276 3 9 5 underlying276 Tryz.cellsByte b cur.size (by have o:c.drew.heap[b]?=σ (ξ cur 5 (0,0)):=k;simp[World.shape?,o]) a j (by omega) (by omega) (λw A u=>g.cells (g:=b) rfl w (ι .u8 A.toNat) (by simp[Lib.byteCells,u]))
 have p:=Lib.below_freeze (Below.drew (ah e c)) (p:=(Ad b 0)) s a.length;clear g k m;go_in;go_wp2_with fail;go_region;all_goals((try go_wp2_with fail);go_ret;exact⟨rfl,p⟩)
