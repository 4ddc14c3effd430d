import Derived.Test.YteniahoehoncjaaGreatDoorProg
import Derived.Test.YteniahoehoncjaaGreatDoorQAK
import Derived.Test.YteniahoehoncjaaGreatDoorQAM
import Derived.WalkLawsBesides
import Derived.BigQuiet
import Derived.Maps.AppendAt
set_option maxHeartbeats 99999999
set_option maxRecDepth 100000
namespace Go.Proofs.YteniahoehoncjaaGreatDoor
open Go.RowKit
namespace S
structure ud (w:World)(r:Nat)(s:ByteArray)(u:Nat):Prop where
 text:w.cell? ⟨r,0,none⟩=some (.string s)
 used:w.cell? ⟨r,1,none⟩=some (.int .i64 (u:Int))
 free:w.frozen? ⟨r,1,none⟩=false
theorem ud.eo {w w':World}{r:Nat}{s:ByteArray}{u:Nat}(h:ud w r s u)(hb:w'.heap[r]?=w.heap[r]?):ud w' r s u:=
 ⟨(bJ (w:=w) hb).trans h.text,(bJ (w:=w) hb).trans h.used,(bM (w:=w) hb).trans h.free⟩
theorem ud.lt {w:World}{r:Nat}{s:ByteArray}{u:Nat}(h:ud w r s u):r<w.heap.size:=aX _ _ h.text
theorem ud.alloc {w:World}{r:Nat}{s:ByteArray}{u:Nat}(h:ud w r s u)(o:Obj):ud (w.alloc o) r s u:=h.eo (bA _ _ _ h.lt)
theorem ud.step {w:World}{r:Nat}{s:ByteArray}{u:Nat}(h:ud w r s u)(x:Int)(hx:x=((u+1:Nat):Int)):ud (w.setCell ⟨r,1,none⟩ (.int .i64 x)) r s (u+1):=by
 subst hx;refine ⟨?_,kS _ _ _ h.used,?_⟩
 . rw [iE _ _ _ _ (by simp)];exact h.text
 . rw [fZ];exact h.free
theorem RT (v bt k n:Nat)(hv:v<18446744073709551616)(hb:bt<256) :
 bits BinOp.or IntKind.u64 (v:Int) (IntKind.u64.wrap (IntKind.u64.wrap (bits BinOp.and IntKind.u8 ((bt:Int) / 2 ^ (n % 8)) 1)*2 ^ min k 64))=((v ||| (if k<64 then (bt.testBit (n % 8)).toNat*2 ^ k else 0):Nat):Int):=by
 have e1:(bt:Int) / 2 ^ (n % 8)=((bt / 2 ^ (n % 8):Nat):Int):=by
  rw [Int.natCast_ediv];congr 1
 have e2:bits BinOp.and IntKind.u8 ((bt / 2 ^ (n % 8):Nat):Int) 1=((bt / 2 ^ (n % 8) &&& 1:Nat):Int):=u8_and_nat _ 1 (cW (Nat.div_le_self _ _) hb) (by omega);have e3:bt / 2 ^ (n % 8) &&& 1=(bt.testBit (n % 8)).toNat:=by rw [rK,Ck]
 have e4:IntKind.u64.wrap ((bt.testBit (n % 8)).toNat:Int)=((bt.testBit (n % 8)).toNat:Int):=by
  rw [fH];cases bt.testBit (n % 8)<;>rfl
 rw [e1,e2,e3,e4];have e5:((bt.testBit (n % 8)).toNat:Int)*2 ^ min k 64=(((bt.testBit (n % 8)).toNat*2 ^ min k 64:Nat):Int):=by
  rw [Int.natCast_mul,Int.natCast_pow];rfl
 rw [e5,fH];by_cases hk:k<64
 . rw [gj (by omega),aH hk]
   have h1:2 ^ k<=2 ^ 63:=dH (by omega) (by omega);have h2:(bt.testBit (n % 8)).toNat*2 ^ k<18446744073709551616:=by
    have h3:(2:Nat) ^ 63=9223372036854775808:=by decide
    cases bt.testBit (n % 8)<;>simp<;>omega
   rw [Int.emod_eq_of_lt (by omega) (by omega)];exact u64_or_nat _ _ hv h2
 . rw [pO (by omega),aA hk,Nat.or_zero]
   have h1:(((bt.testBit (n % 8)).toNat*2 ^ 64:Nat):Int) % 18446744073709551616=((0:Nat):Int):=by
    cases bt.testBit (n % 8)<;>decide
   rw [h1];have:=u64_or_nat v 0 hv (by omega)
   rwa [Nat.or_zero] at this
theorem Oh (s:ByteArray)(n:Nat)(h:n / 8<s.size)(w:World):(Instr.index 9 (.string s) (.int .i64 ((n:Int) / 8))).run Tryz.prog w=.ok (.int .u8 ((zH s (n / 8):Nat):Int)) w:=by
 have hq:((n:Int) / 8).toNat=n / 8:=by omega
 rw [run_index_string w 9 s _ _ Tryz.underlying9,iX ⟨by omega,by omega⟩];have e:s[((n:Int) / 8).toNat]'(by omega)=s.data.toList.getD (n / 8) 0:=by
  simp only [hq];rw [List.getD,ah (by rw [eU];exact h)];rfl
 rw [e];rfl
theorem Zb (r:Nat)(s:ByteArray)(u wd:Nat)(w:World)(h:ud w r s u)(hs:s.size<=140737488351232)(hb:u+wd<=1099511627776) :
 Calls Tryz.prog 138 #[.pointer (some ⟨r,0,none⟩),.int .i64 (wd:Int)] w λe w'=>e=.returned (.int .u64 (rd s u wd:Int))/\ud w' r s (u+wd)/\w.grownBy w' (some r):=by
 go_enter Tryz.func138,Tryz.ntmps138;go_wp2;go_loopw [5,8] (λv c wr=>∃k:Nat,k<=wd/\c=.int .i64 k/\v=.int .u64 (rd s u k:Int)/\Hid (ud wr r s (u+k))/\Hid (w.grownBy wr (some r))) (λ_ c _=>wd - (intOf c).toNat)
 case atStart=>exact ⟨0,aN _,rfl,rfl,hide h,hide (World.grownBy.refl _ _)⟩
 case round=>
  obtain ⟨k,hk,rfl,rfl,HR,HG⟩:=hrel;clear h;by_cases cF:k<wd
  . have jI:(k:Int)<(wd:Int):=by omega
    obtain ⟨n,hn⟩:∃n,n=u+k:=⟨_,rfl⟩;have Vi:n<=1099511627776:=by omega
    have R0:=(ae HR).text;have R1:=(ae HR).used;have R2:=(ae HR).free;rw [<- hn] at R1;have HN:=hide hn;have hv:=Ik s u k;generalize hV:rd s u k=v at *;have HV:=hide hV;clear hn hV;by_cases mC:n / 8<s.size
    . have alU:(n:Int) / 8<(s.size:Int):=by omega
      have hidx:=Oh s n mC;have hbt:=Ve s (n / 8);generalize hBT:zH s (n / 8)=bt at *;have HBT:=hide hBT;clear hBT;go_wp2_with fail;go_region;go_wp2_with fail;go_region;go_wp2_with fail;go_roundw
      case rel=>
       refine ⟨k+1,by omega,by go_num,?_,hide ?_,hide ?_⟩
       . rw [RT v bt k n (by simpa using hv) hbt]
         have e:rd s u (k+1)=v ||| (if k<64 then (bt.testBit (n % 8)).toNat*2 ^ k else 0):=by
          show rd s u k ||| (if k<64 then (qh s (u+k)).toNat*2 ^ k else 0)=_;rw [ae HV,<- ae HN,qh,ae HBT]
         rw [e]
       . have h:=(ae HR).step ((n:Int)+1) (by rw [ae HN];omega)
         exact h.eo rfl
       . have h:=(ae HG).trans (grownBy_setCell wr ⟨r,1,none⟩ (.int .i64 ((n:Int)+1)))
         exact ⟨h.os,h.tape,h.output,h.size,h.block⟩
      case measure=>simp [intOf];omega
    . have alU:(s.size:Int)<=(n:Int) / 8:=by omega
      go_wp2_with fail;go_quiet (fail);go_wp2_with fail;go_roundw
      case rel=>
       refine ⟨k+1,by omega,by go_num,?_,hide ?_,hide ?_⟩
       . have e:rd s u (k+1)=v:=by
          show rd s u k ||| (if k<64 then (qh s (u+k)).toNat*2 ^ k else 0)=_;rw [ae HV,<- ae HN,qh,JF s _ (by omega)];simp
         rw [e]
       . have h:=(ae HR).step ((n:Int)+1) (by rw [ae HN];omega)
         exact h.eo rfl
       . have h:=(ae HG).trans (grownBy_setCell wr ⟨r,1,none⟩ (.int .i64 ((n:Int)+1)))
         exact ⟨h.os,h.tape,h.output,h.size,h.block⟩
      case measure=>simp [intOf];omega
  . obtain rfl:k=wd:=by omega
    go_wp2;go_ret;exact ⟨rfl,ae HR,ae HG⟩
theorem lB (r:Nat)(s:ByteArray)(u:Nat)(wd:Int)(w:World)(h:ud w r s u)(hs:s.size<=140737488351232)(h0:0<=wd)(hb:u+wd.toNat<=1099511627776) :
 Calls Tryz.prog 138 #[.pointer (some ⟨r,0,none⟩),.int .i64 wd] w λe w'=>e=.returned (.int .u64 (rd s u wd.toNat:Int))/\ud w' r s (u+wd.toNat)/\w.grownBy w' (some r):=by
 obtain ⟨wd,rfl⟩:=gG h0;rw [aZ] at *;exact Zb r s u wd w h hs hb
end S
end Go.Proofs.YteniahoehoncjaaGreatDoor
