import Derived.Test.YtcoaphfimellcaaGreatDoorProg
import Derived.Test.YtcoaphfimellcaaGreatDoorQAO
import Derived.WalkLawsBesides
set_option maxHeartbeats 0
set_option maxRecDepth 100000
namespace Go.Proofs.YtcoaphfimellcaaGreatDoor
open Go.RowKit
open _root_.Go.Proofs.Tryz
open Option renaming some→σ,none→ν
open Go.IntKind renaming i64→κ
open Go.Ending renaming returned→τ
open Go.Obj renaming cells→ξ
open Go renaming World→ω
open Go.Value renaming int→ι,slice→ψ,pointer→π
namespace S
theorem Tryz.agR:(prog.info? 5).map (λa=>(a.zero,a.size,a.bytes))=σ (σ (ι .u8 0),1,1):=by kernel_rfl
theorem aeJ(g:Nat->Prop)(e:Nat)(m:List Bool)(f p:Nat)(o:ω)(C:Writer g o e m)(hv:f<18446744073709551616)(hb:m.length+p<=1099511627776) :
 Calls prog 210 #[π (σ ⟨e,0,ν⟩),ι .u64 (f:Int),ι κ (p:Int)] o λaa U=>aa=τ (.tuple #[])/\Writer g U e (m++bitsOf f p)/\aX g o U:=by
 obtain⟨i0,hi,lC,lI,kQ⟩:=info_parts Tryz.agR;go_in;go_wp2;go_loopw[8] (λA wr=>∃c:Nat,c<=p/\A=ι κ c/\Writer g wr e (m++bitsOf f c)/\aX g o wr) (λA _=>p - (intOf A).toNat);case atStart=>exact⟨0,aK _,rfl,by simpa[N1]using C,aX.refl _ _⟩
 case round=>
  obtain⟨c,hk,rfl,⟨sv,bs,d⟩,G⟩:=hrel;by_cases cL:c<p
  .obtain⟨a,j⟩:=nm ((m++bitsOf f c).length);have am:a<=1099511627776:=(by rw[j,az,bM];omega);have fin:∀(l:ω) (i T k:Nat) (z:List Nat),wY g l e i T k z (m++bitsOf f c)->aX g o l->∀old:Nat,old=z.getD (a / 8) 0->old<256->
    Writer g ((l.setCell ⟨i,a / 8,ν⟩ (ι .u8 (bits BinOp.or IntKind.u8 (old:Int) (bits BinOp.and IntKind.u64 ((f:Int) / 2 ^ min c 64) 1 % 256*2 ^ (a % 8) % 256)))).setCell ⟨e,1,ν⟩ (ι κ ((a:Int)+1))).drew e (m++bitsOf f (c+1))/\
    aX g o ((l.setCell ⟨i,a / 8,ν⟩ (ι .u8 (bits BinOp.or IntKind.u8 (old:Int) (bits BinOp.and IntKind.u64 ((f:Int) / 2 ^ min c 64) 1 % 256*2 ^ (a % 8) % 256)))).setCell ⟨e,1,ν⟩ (ι κ ((a:Int)+1))).drew:=by
    intro l i T k z Q D old ho ab;refine⟨?_,Q.keeps D _ _ _⟩;rw[N2,<- cj];subst j;exact Q.done (f.testBit c) _ (by rw[V8 old f c _ ab hv,ho]) _ (by omega)
   have K:=ak fin;have L:=ak j;have x:=d;by_cases B:a % 8=0
   .have t8:((a:Int) % 8==0)=true:=(by rw[dC];omega);have u:=d.used;rw[<- j]at u;have y:=d.sl;have H:=d.f0;have I:=d.f1;have al:bs.length<=1099511627776:=(by rw[d.lays.len,<- j];omega);have t:=ak (d.own.alloc (ξ #[ι .u8 0] 5));clear d C fin j;have Y1:e<wr.heap.size:=bz _ _ y;go_wp2_with(at_builtin;refine cJ _ rfl (.tmp 21) (.tmp 22) 68 rfl 0 5 i0 (ι .u8 0) 1 1 underlying68 hi lC lI kQ rfl (by decide) _ _ _ rfl t.J ⟨wr.heap.size,0,ν⟩ 1 1 [ι .u8 0] rfl rfl ?c1 ?c2 (by decide) ?c3 ?c4 (aK _) ?_);case c1=>intro ac ad v;match ac,v with|0,v=>simp at v;subst v;simp[Addr.add]
    (case c2=>intro ad R;simp at R;subst R;rfl);(case c3=>unfold maxLen;omega);(case c4=>omega);intro i k w1 N O P;obtain⟨M,c0,e0,b⟩:=x.grown (by rw[<- L.J];exact B) N O (by simpa using P);obtain⟨s,E,F,n⟩:=b.cell;have X:=b.used;have R0:=b.sl;have G0:=b.f0;have G1:=b.f1;rw[<- L.J]at s E F n X;have Y:=b.apart;have w:=b;have V:=(G.trans M).setCell (p:=⟨e,0,ν⟩) b.kp (ψ (σ ⟨i,0,ν⟩) (bs.length+1) k);clear N O P b M t y u H I;go_wp2_with fail;generalize w1.setCell ⟨e,0,ν⟩ (ψ (σ ⟨i,0,ν⟩) (bs.length+1) k)=l at *;have D:aX g o l:=V;obtain⟨old,hold⟩:=nm ((bs++[0]).getD (a / 8) 0);rw[<- hold]at s n;have W:=ak hold;clear hold c0 e0;have Z:(a:Int) / 8<((bs.length+1:Nat):Int):=(by omega);have hq:((a:Int) / 8).toNat=a / 8:=(by omega);go_region;go_wp2_with fail;go_roundw;(case rel=>have r:=K.J l i _ k (bs++[0]) w D old W.J n;rw[B,Int.pow_zero,Int.mul_one,Int.emod_emod]at r;exact⟨c+1,by omega,by go_num,r.1,r.2⟩);case measure=>simp[intOf];omega
   have t8:((a:Int) % 8==0)=false:=(by rw[aL];omega);obtain⟨i,k,rfl,b⟩:=d.room (by rw[<- j];exact B);obtain⟨s,E,F,n⟩:=b.cell;have u:=b.used;have y:=b.sl;have H:=b.f0;have I:=b.f1;rw[<- j]at s E F n u;have Y:=b.apart;have w:=b;clear d C fin j b;obtain⟨old,hold⟩:=nm (bs.getD (a / 8) 0);rw[<- hold]at s n;have t:=ak hold;clear hold;have Z:(a:Int) / 8<(bs.length:Int):=(by omega);have hq:((a:Int) / 8).toNat=a / 8:=(by omega);go_wp2_with fail;go_region;go_wp2_with fail;go_roundw;(case rel=>have r:=K.J wr i _ k bs w G old t.J n;exact⟨c+1,by omega,by go_num,r.1,r.2⟩);case measure=>simp[intOf];omega
  obtain rfl:c=p:=(by omega);have x:=d;clear d;go_wp2;go_end0;exact⟨rfl,⟨_,_,x⟩,G⟩
end S
namespace S
theorem qX(b:Nat)(c:Int)(a:Nat)(e:a=c.toNat / 2 ^ b)(g:a≠0)(f:a<256)(j:b<=56):wrap64 ((b:Int)+wrap64 ((bitLen a:Nat):Int))=((bitLen c.toNat:Nat):Int):=by have i:=bitLen_le8 a f;have d:=bitLen_shift c.toNat b (by rw[<- e];exact g);rw[<- e]at d;rw[d];unfold wrap64;omega
theorem Rv(a:Nat)(b:a<256):wrap64 (wrap64 ((bitLen a:Nat):Int))=((bitLen a:Nat):Int):=by have c:=bitLen_le8 a b;unfold wrap64;omega
theorem DX(a:Int)(b:ω)(e:0<=a)(f:a<18446744073709551616) :
 Calls prog 235 #[ι .u64 a] b λc d=>c=τ (ι κ (bitLen a.toNat:Int))/\b=d:=by
 go_in;go_wp2;all_goals(go_ret;refine⟨bn Ending.returned (bn (Value.int IntKind.i64) ?_),rfl⟩)
 all_goals rw[len8tab_get]
 all_goals first
  |exact qX 56 a _ (by omega) (by omega) (by omega) (by omega)
  |exact qX 48 a _ (by omega) (by omega) (by omega) (by omega)
  |exact qX 40 a _ (by omega) (by omega) (by omega) (by omega)
  |exact qX 32 a _ (by omega) (by omega) (by omega) (by omega)
  |exact qX 24 a _ (by omega) (by omega) (by omega) (by omega)
  |exact qX 16 a _ (by omega) (by omega) (by omega) (by omega)
  |exact qX 8 a _ (by omega) (by omega) (by omega) (by omega)
  |exact Rv _ (by omega)
end S
