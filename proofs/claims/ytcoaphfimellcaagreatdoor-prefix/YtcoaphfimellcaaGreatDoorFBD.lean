import Derived.Test.YtcoaphfimellcaaGreatDoorFAS
import Derived.Lib.OwnKind
set_option maxHeartbeats 0
set_option maxRecDepth 100000
namespace Go.Proofs.YtcoaphfimellcaaGreatDoor
open Go.RowKit
open _root_.Go.Proofs.Tryz
open Option renaming some→σ
open Go.Ending renaming returned→τ
open Go renaming World→ω
open Go.Value renaming int→ι,string→θ,slice→ψ,pointer→π
variable{w:List UInt8}{p v:ω}{m x:Nat}
theorem Tryz.sizeBuilder:(prog.info? 220).map (·.size)=σ 2:=by kernel_rfl
theorem Tryz.liesBuilder:liesAt prog prog.depth 220 (2 / prog.cellsOf 220) 0 220 1=true:=by kernel_rfl
theorem Tryz.MI:(prog.info? 5).map (λa=>(a.zero,a.size,a.bytes))=σ (σ (ι .u8 0),1,1):=by kernel_rfl
theorem Tryz.cellsByte:prog.cellsOf 5=1:=by kernel_rfl
abbrev PG(B b:Nat)(l:List UInt8)(w:World):Prop:=Lib.IsBuilder 220 5 B b (Lib.byteCells l) w
def sT(B b:Nat)(w w':ω):Prop:=Below B w w'/\Lib.OthersKept 5 (σ b) w w'
theorem sT.trans{b:Nat}{d:ω}(a:sT m b p v)(c:sT m b v d):sT m b p d:=⟨a.1.trans c.1,a.2.trans c.2⟩
theorem sT.refl(b c:Nat)(a:ω):sT b c a a:=⟨ah _ _,Lib.OthersKept.refl _ _ _⟩
theorem PG.below(e:PG m x w p)(c:Below p.heap.size p v):PG m x w v:=by have d:∀a,Lib.BuilderAt 220 5 m x a (Lib.byteCells w) p->Lib.BuilderAt 220 5 m x a (Lib.byteCells w) v:=λa ⟨f,j,b,g,i⟩=>⟨f,j,(c.block x (ay b)).trans b,ct g c,i⟩;exact e.imp (d _) (d _)
theorem ad4(b:Nat)(a:ω)(f:a.cell? (Ad b 0)=σ (π (σ (Ad b 0)))) :
 Calls prog 130 #[π (σ (Ad b 0))] a λc e=>c=τ (.tuple #[])/\e=a:=by have⟨g,d,_⟩:=dU.1 Tryz.sizeBuilder;go_in;go_wp2;rw[Lib.run_neq_ptr_same a _ underlying218 d];go_wp2;go_end0;exact⟨rfl,rfl⟩
theorem Z9(a:Nat)(b:ω)(i:b.cell? (Ad a 0)=σ (.pointer none))(d:b.shape? a=σ (220,2))(j:b.frozen? (Ad a 0)=false) :
 Calls prog 130 #[π (σ (Ad a 0))] b λe g=>e=τ (.tuple #[])/\g=b.setCell (Ad a 0) (π (σ (Ad a 0))):=by have⟨k,c,f⟩:=dU.1 Tryz.sizeBuilder;go_in;go_wp2;rw[Lib.run_to_unsafe b (Ad a 0) underlying218 underlying305 c (by rw[f];decide) d (Nat.zero_lt_succ 1)];simp only[Result.andThen];rw[Oper.upon_value];go_wp2;rw[run_callFunc_extern func158 (by kernel_rfl) (by kernel_rfl) (by kernel_rfl) (e:=Extern.AbiNoEscape.same) (by kernel_rfl)];rw[Lib.run_noEscape];simp only[Result.andThen];rw[Oper.upon_value];go_wp2;rw[Lib.run_from_unsafe b (Ad a 0) underlying305 underlying218 c d Tryz.liesBuilder];simp only[Result.andThen];rw[Oper.upon_value];go_wp2;go_end0;exact⟨rfl,rfl⟩
theorem MJ(d b:Nat)(bs:List Value)(c:ω)(a:Lib.IsBuilder 220 5 d b bs c) :
 Calls prog 130 #[π (σ (Ad b 0))] c λf e=>f=τ (.tuple #[])/\Lib.BuilderAt 220 5 d b (π (σ (Ad b 0))) bs e/\sT d b c e:=by rcases a with a|a;{refine(Z9 b c a.cell0 a.shape a.frozen0).mono ?_;rintro f e ⟨rfl,rfl⟩;exact⟨rfl,a.used _,(ah d c).setCell (p:=(Ad b 0)) a.1 _,(Lib.OthersKept.refl _ _ c).setCell (Ad b 0) rfl _⟩};refine(ad4 b c a.cell0).mono ?_;rintro f e ⟨rfl,rfl⟩;exact⟨rfl,a,sT.refl d _ _⟩
theorem PG.of(a:Lib.BuilderAt 220 5 m x (π (σ (Ad x 0))) (Lib.byteCells w) p):PG m x w p:=.inr a
theorem xg{b c:Value}{w:ω}(a:w.heap[m]?=σ (.cells #[b,c] 220 (0,0))):w.cell? (Ad m 0)=σ b/\w.cell? (Ad m 1)=σ c/\w.frozen? (Ad m 1)=false/\m<w.heap.size:=
 ⟨by rw[Lib.cell_of_heap a];rfl,by rw[Lib.cell_of_heap a];rfl,Lib.frozen_of_heap a 1,ay a⟩
theorem Ed(b:UInt8)(r:PG m x w v)(ab:w.length<=1000000)(aa:m<=v.heap.size) :
 Calls prog 97 #[π (σ (Ad x 0)),ι .u8 b.toNat] v λf y=>f=τ .nilIface/\PG m x (w++[b]) y/\sT m x v y:=by have⟨I,F,M,N,O⟩:=jc Tryz.MI;have B:=MJ m x _ v r;clear r;go_in;go_wp2_with fail;refine B.mono ?_;rintro f z ⟨rfl,⟨s,R,a,p,E⟩,o,P⟩;obtain⟨V,c1,-,D⟩:=xg a;have U:=o.size;have t:(Lib.byteCells w).length=w.length:=Lib.byteCells_length w;have i:=p.alloc (.cells #[ι .u8 b.toNat] 5);have A:=au a;have n:=au t;clear a p t;go_wp2_with(at_builtin;refine ou _ rfl _ _ 68 rfl m 5 I (ι .u8 0) 1 1 underlying68 F M N O rfl (by decide) _ _ _ rfl i (Ad z.heap.size 0) 1 1 [ι .u8 b.toNat] rfl rfl (λK Q g=>by match K,g with|0,g=>simp at g;subst g;simp[Addr.add]) (λQ u=>by simp at u;subst u;rfl) (by rw[n.J];unfold maxLen;omega) (by rw[n.J];omega) (by simp;omega) ?_);intro T l k e _;have a:=A.J;have j:l.heap[x]?=σ (.cells #[π (σ (Ad x 0)),R] 220 (0,0)):=(by rw[e.block x (by simp;omega) (λf=>E f.symm),Lib.alloc_old z _ x D];exact a);obtain⟨W,X,Y,-⟩:=xg j;obtain⟨d,c,rfl⟩:∃d c,T=ψ (σ (Ad d 0)) ((Lib.byteCells w).length+1) c:=(by rcases k.2 with⟨_,Z⟩|⟨d,c,cur,H,_⟩;{omega};exact⟨d,c,H⟩);have C:Hid (PG m x (w++[b]) (l.setCell (Ad x 1) (ψ (σ (Ad d 0)) ((Lib.byteCells w).length+1) c))/\sT m x v (l.setCell (Ad x 1) (ψ (σ (Ad d 0)) ((Lib.byteCells w).length+1) c))):=au ⟨PG.of (Lib.BuilderAt.put (T:=220) (e:=5) s j (bs':=Lib.byteCells (w++[b])) (by simpa[Lib.byteCells]using k) (by decide)),((o.alloc (by omega) _).grown e (by simp;omega) (λL G=>(i.lt L G).1)).setCell (p:=(Ad x 1)) s _,((P.alloc _).grown e (Lib.ownsRow_kind i)).setCell (Ad x 1) rfl _⟩;clear j a k e;go_wp2;go_ret;exact⟨rfl,C.J⟩
theorem OP(a:ByteArray)(C:PG m x w v)(W:w.length<=1000000)(X:a.size<=1000000)(V:m<=v.heap.size) :
 Calls prog 96 #[π (σ (Ad x 0)),θ a] v λb s=>b=τ (.tuple #[.int .i64 a.size,.nilIface])/\PG m x (w++a.data.toList) s/\sT m x v s:=by
 have⟨F,D,H,I,K⟩:=jc Tryz.MI;have u:=MJ m x _ v C;go_in;go_wp2_with fail;refine u.mono ?_;rintro b Y ⟨rfl,⟨p,M,d,A,B⟩,n,L⟩;obtain⟨P,c1,-,z⟩:=xg d;have O:=n.size;have l:=au (Lib.byteCells_length w);have g:=A;have t:=au d;go_wp2_with(at_builtin;refine Lib.wpList_append_own_string _ rfl _ _ 68 9 rfl m 5 F underlying68 underlying9 D H I K _ _ _ rfl g a rfl (by rw[l.J];unfold maxLen;omega) (by rw[l.J];omega) (by omega) ?_);intro N k r i _;have d:=t.J;have o:k.heap[x]?=σ (.cells #[π (σ (Ad x 0)),M] 220 (0,0)):=(by rw[i.block x z (λb=>B b.symm)];exact d);obtain⟨Q,R,T,-⟩:=xg o;obtain⟨e,f,c,rfl⟩:∃e f c,N=ψ e f c:=(by rcases r.2 with⟨j,_⟩|⟨U,c,cur,j,_⟩;{exact⟨_,_,_,j⟩};exact⟨_,_,_,j⟩)
 have y:Hid (PG m x (w++a.data.toList) (k.setCell (Ad x 1) (ψ e f c))/\sT m x v (k.setCell (Ad x 1) (ψ e f c))):=au ⟨PG.of (Lib.BuilderAt.put (T:=220) (e:=5) p o (bs':=Lib.byteCells (w++a.data.toList)) (by
  have b:Lib.byteCells (w++a.data.toList)=Lib.byteCells w++Lib.strCells a:=by simp[Lib.byteCells,Lib.strCells]
  rw[b];simpa[Lib.strCells_length]using r) (by decide)),(n.grown i (by omega) (λG E=>(g.lt G E).1)).setCell (p:=(Ad x 1)) p _,(L.grown i (Lib.ownsRow_kind g)).setCell (Ad x 1) rfl _⟩
 go_wp2_with fail;go_ret2;exact⟨rfl,y.J⟩
theorem ad5{e f:Nat}{a:List UInt8}{c:ω}(g:PG e f a c)(j:a≠[])(H:a.length<=1000000) :
 Calls prog 99 #[π (σ (Ad f 0))] c λp z=>p=τ (θ ⟨a.toArray⟩)/\Below e c z:=by
 obtain⟨k,D,y,l,i,C⟩:∃k,Lib.BuilderAt 220 5 e f k (Lib.byteCells a) c:=by rcases g with g|g<;>exact⟨_,g⟩
 have m:a.length≠0:=by simpa using j
 rw[Lib.byteCells_length]at i;obtain⟨b,d,cur,rfl,r,s,I,B,G,-⟩:∃b d cur,y=ψ (σ (Ad b 0)) a.length d/\e<=b/\c.heap[b]?=σ (.cells cur 5 (0,0))/\a.length<=d/\d<=maxLen/\cur.size=d*1/\cur.toList.take (a.length*1)=Lib.byteCells a:=(by rcases i.2 with⟨_,v⟩|⟨b,d,cur,t,x⟩;{exact absurd v m};exact⟨b,d,cur,t,x⟩);have c1:c.drew.cell? (Ad f 1)=σ (ψ (σ (Ad b 0)) a.length d):=(xg (w:=c.drew) l).2.1;have E:(Builtin.unsafeSliceData_ #[68] 276 #[ψ (σ (Ad b 0)) a.length d]).run prog c.drew=.ok (π (σ (Ad b 0))) c.drew:=Lib.run_unsafeSliceData_row _ _ _ _ _ _ (by omega);have F:(Builtin.unsafeString_ #[276,3] 9 #[π (σ (Ad b 0)),.int .i64 a.length]).run prog c.drew=.ok (θ ⟨a.toArray⟩) (c.drew.freeze (Ad b 0) a.length):=
  Lib.run_unsafeString_row c.drew 276 3 9 5 underlying276 Tryz.cellsByte b cur.size (by have o:c.drew.heap[b]?=σ (.cells cur 5 (0,0)):=s;simp[World.shape?,o]) a j (by omega) (by omega) (λw A u=>i.cells (g:=b) rfl w (ι .u8 A.toNat) (by simp[Lib.byteCells,u]))
 have n:=Lib.below_freeze (Below.drew (ah e c)) (p:=(Ad b 0)) r a.length;go_in;go_wp2_with fail;go_region;all_goals (try go_wp2_with fail);go_ret;exact⟨rfl,n⟩
