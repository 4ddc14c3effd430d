import Derived.Test.YteniahoehoncjaaGreatDoorProg
import Derived.Test.YteniahoehoncjaaGreatDoorQAK
import Derived.WalkLawsBesides
set_option maxHeartbeats 99999999
set_option maxRecDepth 100000
namespace Go.Proofs.YteniahoehoncjaaGreatDoor
open Go.RowKit
namespace S
theorem Tryz.abq:(Tryz.prog.info? 5).map (λi=>(i.zero,i.size,i.bytes))=some (some (.int .u8 0),1,1):=by kernel_rfl
theorem Zc (K:Nat->Prop)(p:Nat)(l:List Bool)(v wd:Nat)(w:World)(hw:Writer K w p l)(hv:v<18446744073709551616)(hb:l.length+wd<=1099511627776) :
 Calls Tryz.prog 157 #[.pointer (some ⟨p,0,none⟩),.int .u64 (v:Int),.int .i64 (wd:Int)] w λe w'=>e=.returned (.tuple #[])/\Writer K w' p (l++bitsOf v wd)/\aQ K w w':=by
 obtain ⟨i0,hi,jS,jD,jv⟩:=info_parts Tryz.abq;go_enter Tryz.func157,Tryz.ntmps157;go_wp2;go_loopw [8] (λc wr=>∃k:Nat,k<=wd/\c=.int .i64 k/\Writer K wr p (l++bitsOf v k)/\aQ K w wr) (λc _=>wd - (intOf c).toNat)
 case atStart=>exact ⟨0,aN _,rfl,by simpa [Lf] using hw,aQ.refl _ _⟩
 case round=>
  obtain ⟨k,hk,rfl,⟨sv,bs,W⟩,vm⟩:=hrel;by_cases cF:k<wd
  . obtain ⟨n,hn⟩:∃n,n=(l++bitsOf v k).length:=⟨_,rfl⟩
    have Vi:n<=1099511627776:=by rw [hn,au,bk];omega
    have fin:∀(w2:World) (g m cap:Nat) (bs2:List Nat),uk K w2 p g m cap bs2 (l++bitsOf v k)->aQ K w w2->∀old:Nat,old=bs2.getD (n / 8) 0->old<256->
     Writer K ((w2.setCell ⟨g,n / 8,none⟩ (.int .u8 (bits BinOp.or IntKind.u8 (old:Int) (bits BinOp.and IntKind.u64 ((v:Int) / 2 ^ min k 64) 1 % 256*2 ^ (n % 8) % 256)))).setCell ⟨p,1,none⟩ (.int .i64 ((n:Int)+1))).drew p (l++bitsOf v (k+1))/\
     aQ K w ((w2.setCell ⟨g,n / 8,none⟩ (.int .u8 (bits BinOp.or IntKind.u8 (old:Int) (bits BinOp.and IntKind.u64 ((v:Int) / 2 ^ min k 64) 1 % 256*2 ^ (n % 8) % 256)))).setCell ⟨p,1,none⟩ (.int .i64 ((n:Int)+1))).drew:=by
     intro w2 g m cap bs2 h2 nQ old ho Zd;refine ⟨?_,h2.keeps nQ _ _ _⟩;rw [Lg,<- bh];subst hn;exact h2.done (v.testBit k) _ (by rw [RS old v k _ Zd hv,ho]) _ (by omega)
    have HF:=hide fin;have HN:=hide hn;have HW:=hide W;by_cases h8:n % 8=0
    . have t8:((n:Int) % 8==0)=true:=by rw [bz];omega
      have W1:=W.used;rw [<- hn] at W1;have W0:=W.sl;have F0:=W.f0;have F1:=W.f1;have hlen:bs.length<=1099511627776:=by rw [W.lays.len,<- hn];omega
      have HO:=hide (W.own.alloc (.cells #[.int .u8 0] 5));clear W hw fin hn;have Yv:p<wr.heap.size:=aX _ _ W0;go_wp2_with (at_builtin;refine cA _ rfl (.tmp 21) (.tmp 22) 203 rfl 0 5 i0 (.int .u8 0) 1 1 Tryz.underlying203 hi jS jD jv rfl (by decide) _ _ _ rfl (ae HO) ⟨wr.heap.size,0,none⟩ 1 1 [.int .u8 0] rfl rfl ?c1 ?c2 (by decide) ?c3 ?c4 (aN _) ?_)
      case c1=>intro j u hj;match j,hj with|0,hj=>simp at hj;subst hj;simp [Addr.add]
      case c2=>intro u hu;simp at hu;subst hu;rfl
      case c3=>unfold maxLen;omega
      case c4=>omega
      intro g cap w1 br bE bW;obtain ⟨hK1,c0,e0,R⟩:=(ae HW).grown (by rw [<- ae HN];exact h8) br bE (by simpa using bW);obtain ⟨rc,rf,rl,rb⟩:=R.cell;have R1:=R.used;have R0:=R.sl;have G0:=R.f0;have G1:=R.f1;rw [<- ae HN] at rc rf rl rb R1;have QJ:=R.apart;have HR:=hide R;have um:=hide ((vm.trans hK1).setCell (p:=⟨p,0,none⟩) R.kp (.slice (some ⟨g,0,none⟩) (bs.length+1) cap));clear br bE bW R hK1 HO W0 W1 F0 F1;go_wp2_with fail;generalize w1.setCell ⟨p,0,none⟩ (.slice (some ⟨g,0,none⟩) (bs.length+1) cap)=w2 at *;have nQ:aQ K w w2:=ae um;obtain ⟨old,hold⟩:∃old,old=(bs++[0]).getD (n / 8) 0:=⟨_,rfl⟩;rw [<- hold] at rc rb;have HOL:=hide hold;have Bi:=hide nQ;clear hold nQ c0 e0;have Vj:(n:Int) / 8<((bs.length+1:Nat):Int):=by omega
      have hq:((n:Int) / 8).toNat=n / 8:=by omega
      go_region;go_wp2_with fail;go_roundw
      case rel=>
       have jZ:=ae HF w2 g _ cap (bs++[0]) (ae HR) (ae Bi) old (ae HOL) rb;rw [h8,Int.pow_zero,Int.mul_one,Int.emod_emod] at jZ;exact ⟨k+1,by omega,by go_num,jZ.1,jZ.2⟩
      case measure=>simp [intOf];omega
    . have t8:((n:Int) % 8==0)=false:=by rw [aj];omega
      obtain ⟨g,cap,rfl,R⟩:=W.room (by rw [<- hn];exact h8);obtain ⟨rc,rf,rl,rb⟩:=R.cell;have W1:=R.used;have W0:=R.sl;have F0:=R.f0;have F1:=R.f1;rw [<- hn] at rc rf rl rb W1;have QJ:=R.apart;have HR:=hide R;clear W hw fin hn R;obtain ⟨old,hold⟩:∃old,old=bs.getD (n / 8) 0:=⟨_,rfl⟩;rw [<- hold] at rc rb;have HO:=hide hold;clear hold;have Vj:(n:Int) / 8<(bs.length:Int):=by omega
      have hq:((n:Int) / 8).toNat=n / 8:=by omega
      go_wp2_with fail;go_region;go_wp2_with fail;go_roundw
      case rel=>
       have jZ:=ae HF wr g _ cap bs (ae HR) vm old (ae HO) rb;exact ⟨k+1,by omega,by go_num,jZ.1,jZ.2⟩
      case measure=>simp [intOf];omega
  . obtain rfl:k=wd:=by omega
    have HW:=hide W;clear W;go_wp2;go_end0;exact ⟨rfl,⟨_,_,ae HW⟩,vm⟩
end S
namespace S
theorem pB (b:Nat)(x:Int)(y:Nat)(hy:y=x.toNat / 2 ^ b)(iq:y≠0)(acM:y<256)(hb:b<=56):wrap64 ((b:Int)+wrap64 ((bitLen y:Nat):Int))=((bitLen x.toNat:Nat):Int):=by
 have h8:=bitLen_le8 y acM;have hs:=bitLen_shift x.toNat b (by rw [<- hy];exact iq);rw [<- hy] at hs;rw [hs];unfold wrap64;omega
theorem Oi (y:Nat)(acM:y<256):wrap64 (wrap64 ((bitLen y:Nat):Int))=((bitLen y:Nat):Int):=by
 have h8:=bitLen_le8 y acM;unfold wrap64;omega
theorem Bn (x:Int)(w:World)(h0:0<=x)(h1:x<18446744073709551616) :
 Calls Tryz.prog 187 #[.int .u64 x] w λe w'=>e=.returned (.int .i64 (bitLen x.toNat:Int))/\w=w':=by
 go_enter Tryz.func187,Tryz.ntmps187;go_wp2
 all_goals (go_ret;refine ⟨aU Ending.returned (aU (Value.int IntKind.i64) ?_),rfl⟩)
 all_goals rw [len8tab_get]
 all_goals first
  |exact pB 56 x _ (by omega) (by omega) (by omega) (by omega)
  |exact pB 48 x _ (by omega) (by omega) (by omega) (by omega)
  |exact pB 40 x _ (by omega) (by omega) (by omega) (by omega)
  |exact pB 32 x _ (by omega) (by omega) (by omega) (by omega)
  |exact pB 24 x _ (by omega) (by omega) (by omega) (by omega)
  |exact pB 16 x _ (by omega) (by omega) (by omega) (by omega)
  |exact pB 8 x _ (by omega) (by omega) (by omega) (by omega)
  |exact Oi _ (by omega)
end S
end Go.Proofs.YteniahoehoncjaaGreatDoor
