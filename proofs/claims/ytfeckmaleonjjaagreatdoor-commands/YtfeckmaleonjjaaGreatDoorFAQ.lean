import Derived.Test.YtfeckmaleonjjaaGreatDoorProg
import Derived.Test.YtfeckmaleonjjaaGreatDoorFAA
import Derived.BigQuiet
import Derived.Maps.AppendAt
set_option maxHeartbeats 0
set_option maxRecDepth 100000
namespace Go.Proofs.YtfeckmaleonjjaaGreatDoor
open Go.RowKit
open _root_.Go.Proofs.Tryz
variable{w:Γ}{p:World}{m x:Nat}
namespace S
structure yx (w:World)(r:Nat)(s:Γ)(u:Nat):Prop where
 text:w.cell? ⟨r,0,none⟩=some (.string s)
 used:w.cell? ⟨r,1,none⟩=some (.int .i64 (u:Int))
 free:w.frozen? ⟨r,1,none⟩=false
theorem yx.kY{a g:World}{b:Nat}{e:Γ}{f:Nat}(c:yx a b e f)(d:g.heap[b]?=a.heap[b]?):yx g b e f:=
 ⟨(dx (w:=a) d).trans c.text,(dx (w:=a) d).trans c.used,(dI (w:=a) d).trans c.free⟩
theorem yx.lt(a:yx p m w x):m<p.heap.size:=bT _ _ a.text
theorem yx.alloc{w:World}{b:Γ}(a:yx w m b x)(c:Obj):yx (w.alloc c) m b x:=a.kY (dA _ _ _ a.lt)
theorem yx.step{u:Nat}(a:yx p m w u)(b:Int)(c:b=((u+1:Nat):Int)):yx (p.setCell ⟨m,1,none⟩ (.int .i64 b)) m w (u+1):=by subst c;refine⟨?_,nu _ _ _ a.used,?_⟩;{rw[kr _ _ _ _ (by simp)];exact a.text};rw[jk];exact a.free
theorem YB(d a c b:Nat)(g:d<18446744073709551616)(o:a<256) :
 bits BinOp.or IntKind.u64 (d:Int) (IntKind.u64.wrap (IntKind.u64.wrap (bits BinOp.and IntKind.u8 ((a:Int) / 2 ^ (b % 8)) 1)*2 ^ min c 64))=((d ||| (if c<64 then(a.testBit (b % 8)).toNat*2 ^ c else 0):Nat):Int):=by
 have i:(a:Int) / 2 ^ (b % 8)=((a / 2 ^ (b % 8):Nat):Int):=(by rw[Int.natCast_ediv];congr 1);have j:bits BinOp.and IntKind.u8 ((a / 2 ^ (b % 8):Nat):Int) 1=((a / 2 ^ (b % 8) &&& 1:Nat):Int):=u8_and_nat _ 1 (bY (Nat.div_le_self _ _) o) (by omega);have k:a / 2 ^ (b % 8) &&& 1=(a.testBit (b % 8)).toNat:=by rw[vz,F3]
 have l:IntKind.u64.wrap ((a.testBit (b % 8)).toNat:Int)=((a.testBit (b % 8)).toNat:Int):=(by rw[iO];cases a.testBit (b % 8)<;>rfl);rw[i,j,k,l];have m:((a.testBit (b % 8)).toNat:Int)*2 ^ min c 64=(((a.testBit (b % 8)).toNat*2 ^ min c 64:Nat):Int):=(by rw[Int.natCast_mul,Int.natCast_pow];rfl);rw[m,iO];by_cases f:c<64;{rw[jv (by omega),aN f];have e:2 ^ c<=2 ^ 63:=eU (by omega) (by omega);have n:(a.testBit (b % 8)).toNat*2 ^ c<18446744073709551616:=(by have p:(2:Nat) ^ 63=9223372036854775808:=(by decide);cases a.testBit (b % 8)<;>simp<;>omega);rw[Int.emod_eq_of_lt (by omega) (by omega)];exact u64_or_nat _ _ g n};rw[sX (by omega),aH f,Nat.or_zero];have e:(((a.testBit (b % 8)).toNat*2 ^ 64:Nat):Int) % 18446744073709551616=((0:Nat):Int):=(by cases a.testBit (b % 8)<;>decide);rw[e];have:=u64_or_nat d 0 g (by omega);rwa[Nat.or_zero]at this
theorem Ul(b:Γ)(a:Nat)(e:a / 8<b.size)(c:World):(Instr.index 9 (.string b) (.int .i64 ((a:Int) / 8))).run prog c=.ok (.int .u8 ((D1 b (a / 8):Nat):Int)) c:=by
 have f:((a:Int) / 8).toNat=a / 8:=by omega
 rw[run_index_string c 9 b _ _ underlying9,kT ⟨by omega,by omega⟩];have d:b[((a:Int) / 8).toNat]'(by omega)=b.data.toList.getD (a / 8) 0:=(by simp only[f];rw[List.getD,af (by rw[jC];exact e)];rfl);rw[d];rfl
theorem agc(f:Nat)(b:Γ)(d g:Nat)(m:World)(c:yx m f b d)(H:b.size<=140737488351232)(D:d+g<=1099511627776) :
 Calls prog 184 #[.pointer (some ⟨f,0,none⟩),.int .i64 (g:Int)] m λj s=>j=.returned (.int .u64 (rd b d g:Int))/\yx s f b (d+g)/\m.grownBy s (some f):=by
 go_in;go_wp2;go_loopw[5,8] (λk o wr=>∃a:Nat,a<=g/\o=.int .i64 a/\k=.int .u64 (rd b d a:Int)/\Hid (yx wr f b (d+a))/\Hid (m.grownBy wr (some f))) (λ_ o _=>g - (intOf o).toNat);case atStart=>exact⟨0,aB _,rfl,rfl,ak c,ak (World.grownBy.refl _ _)⟩
 case round=>obtain⟨a,F,rfl,rfl,i,n⟩:=hrel;clear c;by_cases w:a<g;{have C:=aX.2 w;obtain⟨e,p⟩:=nm (d+a);have G:e<=1099511627776:=(by omega);have A:=i.J.text;have u:=i.J.used;have B:=i.J.free;rw[<- p]at u;have l:=ak p;have y:=Qs b d a;generalize hV:rd b d a=k at *;have r:=ak hV;clear p hV;by_cases z:e / 8<b.size;{have v:(e:Int) / 8<(b.size:Int):=(by omega);have E:=Ul b e z;have x:=acq b (e / 8);generalize hBT:D1 b (e / 8)=bt at *;have t:=ak hBT;clear hBT;go_wp2;go_region;go_wp2;go_region;go_wp2;go_roundw;(case rel=>refine⟨a+1,by omega,by go_num,?_,ak ?_,ak ?_⟩;{rw[YB k bt a e (by simpa using y) x];have j:rd b d (a+1)=k ||| (if a<64 then(bt.testBit (e % 8)).toNat*2 ^ a else 0):=(by show rd b d a ||| (if a<64 then(tK b (d+a)).toNat*2 ^ a else 0)=_;rw[r.J,<- l.J,tK,t.J]);rw[j]};{have c:=i.J.step ((e:Int)+1) (by rw[l.J];omega);exact c.kY rfl};have c:=n.J.trans (grownBy_setCell wr ⟨f,1,none⟩ (.int .i64 ((e:Int)+1)));exact⟨c.os,c.tape,c.output,c.size,c.block⟩);case measure=>simp[intOf];omega};have v:(b.size:Int)<=(e:Int) / 8:=(by omega);go_wp2;go_quiet(fail);go_wp2;go_roundw;(case rel=>refine⟨a+1,by omega,by go_num,?_,ak ?_,ak ?_⟩;{have j:rd b d (a+1)=k:=(by show rd b d a ||| (if a<64 then(tK b (d+a)).toNat*2 ^ a else 0)=_;rw[r.J,<- l.J,tK,Nw b _ (by omega)];simp);rw[j]};{have c:=i.J.step ((e:Int)+1) (by rw[l.J];omega);exact c.kY rfl};have c:=n.J.trans (grownBy_setCell wr ⟨f,1,none⟩ (.int .i64 ((e:Int)+1)));exact⟨c.os,c.tape,c.output,c.size,c.block⟩);case measure=>simp[intOf];omega};obtain rfl:a=g:=(by omega);go_wp2;go_ret;exact⟨rfl,i.J,n.J⟩
theorem pz(b:Nat)(c:Γ)(d:Nat)(a:Int)(e:World)(i:yx e b c d)(l:c.size<=140737488351232)(j:0<=a)(k:d+a.toNat<=1099511627776) :
 Calls prog 184 #[.pointer (some ⟨b,0,none⟩),.int .i64 a] e λg f=>g=.returned (.int .u64 (rd c d a.toNat:Int))/\yx f b c (d+a.toNat)/\e.grownBy f (some b):=by obtain⟨a,rfl⟩:=jI j;rw[cm]at *;exact agc b c d a e i l k
end S
