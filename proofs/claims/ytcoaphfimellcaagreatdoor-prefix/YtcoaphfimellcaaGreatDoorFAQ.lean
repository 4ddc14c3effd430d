import Derived.Test.YtcoaphfimellcaaGreatDoorProg
import Derived.Test.YtcoaphfimellcaaGreatDoorFAA
import Derived.BigQuiet
import Derived.Maps.AppendAt
set_option maxHeartbeats 0
set_option maxRecDepth 100000
namespace Go.Proofs.YtcoaphfimellcaaGreatDoor
open Go.RowKit
open _root_.Go.Proofs.Tryz
variable{w:ByteArray}{p:World}{m x:Nat}
namespace S
structure xY (w:World)(r:Nat)(s:ByteArray)(u:Nat):Prop where
 text:w.cell? ⟨r,0,none⟩=some (.string s)
 used:w.cell? ⟨r,1,none⟩=some (.int .i64 (u:Int))
 free:w.frozen? ⟨r,1,none⟩=false
theorem xY.kG{a g:World}{b:Nat}{e:ByteArray}{f:Nat}(c:xY a b e f)(d:g.heap[b]?=a.heap[b]?):xY g b e f:=
 ⟨(cy (w:=a) d).trans c.text,(cy (w:=a) d).trans c.used,(dr (w:=a) d).trans c.free⟩
theorem xY.lt(a:xY p m w x):m<p.heap.size:=bA _ _ a.text
theorem xY.alloc{w:World}{b:ByteArray}(a:xY w m b x)(c:Obj):xY (w.alloc c) m b x:=a.kG (cw _ _ _ a.lt)
theorem xY.step{u:Nat}(a:xY p m w u)(b:Int)(c:b=((u+1:Nat):Int)):xY (p.setCell ⟨m,1,none⟩ (.int .i64 b)) m w (u+1):=by subst c;refine⟨?_,mM _ _ _ a.used,?_⟩;{rw[jW _ _ _ _ (by simp)];exact a.text};rw[iP];exact a.free
theorem Y1(d a c b:Nat)(g:d<18446744073709551616)(o:a<256) :
 bits BinOp.or IntKind.u64 (d:Int) (IntKind.u64.wrap (IntKind.u64.wrap (bits BinOp.and IntKind.u8 ((a:Int) / 2 ^ (b % 8)) 1)*2 ^ min c 64))=((d ||| (if c<64 then(a.testBit (b % 8)).toNat*2 ^ c else 0):Nat):Int):=by
 have i:(a:Int) / 2 ^ (b % 8)=((a / 2 ^ (b % 8):Nat):Int):=(by rw[Int.natCast_ediv];congr 1);have j:bits BinOp.and IntKind.u8 ((a / 2 ^ (b % 8):Nat):Int) 1=((a / 2 ^ (b % 8) &&& 1:Nat):Int):=u8_and_nat _ 1 (dF (Nat.div_le_self _ _) o) (by omega);have k:a / 2 ^ (b % 8) &&& 1=(a.testBit (b % 8)).toNat:=by rw[vm,FQ]
 have l:IntKind.u64.wrap ((a.testBit (b % 8)).toNat:Int)=((a.testBit (b % 8)).toNat:Int):=(by rw[il];cases a.testBit (b % 8)<;>rfl);rw[i,j,k,l];have m:((a.testBit (b % 8)).toNat:Int)*2 ^ min c 64=(((a.testBit (b % 8)).toNat*2 ^ min c 64:Nat):Int):=(by rw[Int.natCast_mul,Int.natCast_pow];rfl);rw[m,il];by_cases f:c<64;{rw[gx (by omega),aF f];have e:2 ^ c<=2 ^ 63:=eE (by omega) (by omega);have n:(a.testBit (b % 8)).toNat*2 ^ c<18446744073709551616:=(by have p:(2:Nat) ^ 63=9223372036854775808:=(by decide);cases a.testBit (b % 8)<;>simp<;>omega);rw[Int.emod_eq_of_lt (by omega) (by omega)];exact u64_or_nat _ _ g n};rw[ni (by omega),aE f,Nat.or_zero];have e:(((a.testBit (b % 8)).toNat*2 ^ 64:Nat):Int) % 18446744073709551616=((0:Nat):Int):=(by cases a.testBit (b % 8)<;>decide);rw[e];have:=u64_or_nat d 0 g (by omega);rwa[Nat.or_zero]at this
theorem Ug(b:ByteArray)(a:Nat)(e:a / 8<b.size)(c:World):(Instr.index 9 (.string b) (.int .i64 ((a:Int) / 8))).run prog c=.ok (.int .u8 ((DE b (a / 8):Nat):Int)) c:=by
 have f:((a:Int) / 8).toNat=a / 8:=by omega
 rw[run_index_string c 9 b _ _ underlying9,ec ⟨by omega,by omega⟩];have d:b[((a:Int) / 8).toNat]'(by omega)=b.data.toList.getD (a / 8) 0:=(by simp only[f];rw[List.getD,af (by rw[ji];exact e)];rfl);rw[d];rfl
theorem ag7(g:Nat)(b:ByteArray)(d f:Nat)(m:World)(c:xY m g b d)(G:b.size<=140737488351232)(C:d+f<=1099511627776) :
 Calls prog 182 #[.pointer (some ⟨g,0,none⟩),.int .i64 (f:Int)] m λj s=>j=.returned (.int .u64 (rd b d f:Int))/\xY s g b (d+f)/\m.grownBy s (some g):=by
 go_in;go_wp2;go_loopw[5,8] (λk o wr=>∃a:Nat,a<=f/\o=.int .i64 a/\k=.int .u64 (rd b d a:Int)/\Hid (xY wr g b (d+a))/\Hid (m.grownBy wr (some g))) (λ_ o _=>f - (intOf o).toNat);case atStart=>exact⟨0,aI _,rfl,rfl,au c,au (World.grownBy.refl _ _)⟩
 case round=>obtain⟨a,E,rfl,rfl,i,n⟩:=hrel;clear c;by_cases B:a<f;{have H:(a:Int)<(f:Int):=(by omega);obtain⟨e,p⟩:=nm (d+a);have F:e<=1099511627776:=(by omega);have z:=i.J.text;have u:=i.J.used;have A:=i.J.free;rw[<- p]at u;have l:=au p;have x:=Qr b d a;generalize hV:rd b d a=k at *;have r:=au hV;clear p hV;by_cases y:e / 8<b.size;{have v:(e:Int) / 8<(b.size:Int):=(by omega);have D:=Ug b e y;have w:=acF b (e / 8);generalize hBT:DE b (e / 8)=bt at *;have t:=au hBT;clear hBT;go_wp2_with fail;go_region;go_wp2_with fail;go_region;go_wp2_with fail;go_roundw;(case rel=>refine⟨a+1,by omega,by go_num,?_,au ?_,au ?_⟩;{rw[Y1 k bt a e (by simpa using x) w];have j:rd b d (a+1)=k ||| (if a<64 then(bt.testBit (e % 8)).toNat*2 ^ a else 0):=(by show rd b d a ||| (if a<64 then(sM b (d+a)).toNat*2 ^ a else 0)=_;rw[r.J,<- l.J,sM,t.J]);rw[j]};{have c:=i.J.step ((e:Int)+1) (by rw[l.J];omega);exact c.kG rfl};have c:=n.J.trans (grownBy_setCell wr ⟨g,1,none⟩ (.int .i64 ((e:Int)+1)));exact⟨c.os,c.tape,c.output,c.size,c.block⟩);case measure=>simp[intOf];omega};have v:(b.size:Int)<=(e:Int) / 8:=(by omega);go_wp2_with fail;go_quiet(fail);go_wp2_with fail;go_roundw;(case rel=>refine⟨a+1,by omega,by go_num,?_,au ?_,au ?_⟩;{have j:rd b d (a+1)=k:=(by show rd b d a ||| (if a<64 then(sM b (d+a)).toNat*2 ^ a else 0)=_;rw[r.J,<- l.J,sM,NU b _ (by omega)];simp);rw[j]};{have c:=i.J.step ((e:Int)+1) (by rw[l.J];omega);exact c.kG rfl};have c:=n.J.trans (grownBy_setCell wr ⟨g,1,none⟩ (.int .i64 ((e:Int)+1)));exact⟨c.os,c.tape,c.output,c.size,c.block⟩);case measure=>simp[intOf];omega};obtain rfl:a=f:=(by omega);go_wp2;go_ret;exact⟨rfl,i.J,n.J⟩
theorem oR(b:Nat)(c:ByteArray)(d:Nat)(a:Int)(e:World)(i:xY e b c d)(l:c.size<=140737488351232)(j:0<=a)(k:d+a.toNat<=1099511627776) :
 Calls prog 182 #[.pointer (some ⟨b,0,none⟩),.int .i64 a] e λg f=>g=.returned (.int .u64 (rd c d a.toNat:Int))/\xY f b c (d+a.toNat)/\e.grownBy f (some b):=by obtain⟨a,rfl⟩:=jm j;rw[bQ]at *;exact ag7 b c d a e i l k
end S
