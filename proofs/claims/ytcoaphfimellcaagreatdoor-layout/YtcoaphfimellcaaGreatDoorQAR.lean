import Derived.Test.YtcoaphfimellcaaGreatDoorProg
import Derived.Test.YtcoaphfimellcaaGreatDoorQAO
import Derived.Test.YtcoaphfimellcaaGreatDoorQAQ
import Derived.WalkLawsBesides
import Derived.BigQuiet
import Derived.Maps.AppendAt
set_option maxHeartbeats 0
set_option maxRecDepth 100000
namespace Go.Proofs.YtcoaphfimellcaaGreatDoor
open Go.RowKit
open _root_.Go.Proofs.Tryz
open Option renaming some→σ,none→ν
open Go.IntKind renaming i64→κ
open Go.Ending renaming returned→τ
open Go renaming World→ω
open Go.Value renaming int→ι,string→θ,pointer→π
variable{w:ByteArray}{p:ω}{m x:Nat}
namespace S
structure wZ (w:ω)(r:Nat)(s:ByteArray)(u:Nat):Prop where
 text:w.cell? ⟨r,0,ν⟩=σ (θ s)
 used:w.cell? ⟨r,1,ν⟩=σ (ι κ (u:Int))
 free:w.frozen? ⟨r,1,ν⟩=false
theorem wZ.jM{a g:ω}{b:Nat}{e:ByteArray}{f:Nat}(c:wZ a b e f)(d:g.heap[b]?=a.heap[b]?):wZ g b e f:=
 ⟨(bZ (w:=a) d).trans c.text,(bZ (w:=a) d).trans c.used,(cY (w:=a) d).trans c.free⟩
theorem wZ.lt(a:wZ p m w x):m<p.heap.size:=bz _ _ a.text
theorem wZ.alloc{w:ω}{b:ByteArray}(a:wZ w m b x)(c:Obj):wZ (w.alloc c) m b x:=a.jM (ct _ _ _ a.lt)
theorem wZ.step{u:Nat}(a:wZ p m w u)(b:Int)(c:b=((u+1:Nat):Int)):wZ (p.setCell ⟨m,1,ν⟩ (ι κ b)) m w (u+1):=by subst c;refine⟨?_,mj _ _ _ a.used,?_⟩;{rw[jq _ _ _ _ (by simp)];exact a.text};rw[gW];exact a.free
theorem V9(d a c b:Nat)(g:d<18446744073709551616)(o:a<256) :
 bits BinOp.or IntKind.u64 (d:Int) (IntKind.u64.wrap (IntKind.u64.wrap (bits BinOp.and IntKind.u8 ((a:Int) / 2 ^ (b % 8)) 1)*2 ^ min c 64))=((d ||| (if c<64 then(a.testBit (b % 8)).toNat*2 ^ c else 0):Nat):Int):=by
 have i:(a:Int) / 2 ^ (b % 8)=((a / 2 ^ (b % 8):Nat):Int):=(by rw[Int.natCast_ediv];congr 1);have j:bits BinOp.and IntKind.u8 ((a / 2 ^ (b % 8):Nat):Int) 1=((a / 2 ^ (b % 8) &&& 1:Nat):Int):=u8_and_nat _ 1 (du (Nat.div_le_self _ _) o) (by omega);have k:a / 2 ^ (b % 8) &&& 1=(a.testBit (b % 8)).toNat:=by rw[uf,ES]
 have l:IntKind.u64.wrap ((a.testBit (b % 8)).toNat:Int)=((a.testBit (b % 8)).toNat:Int):=(by rw[gG];cases a.testBit (b % 8)<;>rfl);rw[i,j,k,l];have m:((a.testBit (b % 8)).toNat:Int)*2 ^ min c 64=(((a.testBit (b % 8)).toNat*2 ^ min c 64:Nat):Int):=(by rw[Int.natCast_mul,Int.natCast_pow];rfl);rw[m,gG];by_cases f:c<64;{rw[fA (by omega),aF f];have e:2 ^ c<=2 ^ 63:=dU (by omega) (by omega);have n:(a.testBit (b % 8)).toNat*2 ^ c<18446744073709551616:=(by have p:(2:Nat) ^ 63=9223372036854775808:=(by decide);cases a.testBit (b % 8)<;>simp<;>omega);rw[Int.emod_eq_of_lt (by omega) (by omega)];exact u64_or_nat _ _ g n};rw[mH (by omega),aE f,Nat.or_zero];have e:(((a.testBit (b % 8)).toNat*2 ^ 64:Nat):Int) % 18446744073709551616=((0:Nat):Int):=(by cases a.testBit (b % 8)<;>decide);rw[e];have:=u64_or_nat d 0 g (by omega);rwa[Nat.or_zero]at this
theorem Ru(b:ByteArray)(a:Nat)(e:a / 8<b.size)(c:ω):(Instr.index 9 (θ b) (ι κ ((a:Int) / 8))).run prog c=.ok (ι .u8 ((Cw b (a / 8):Nat):Int)) c:=by
 have f:((a:Int) / 8).toNat=a / 8:=by omega
 rw[run_index_string c 9 b _ _ underlying9,jH ⟨by omega,by omega⟩];have d:b[((a:Int) / 8).toNat]'(by omega)=b.data.toList.getD (a / 8) 0:=(by simp only[f];rw[List.getD,af (by rw[iq];exact e)];rfl);rw[d];rfl
theorem aeI(g:Nat)(b:ByteArray)(d f:Nat)(m:ω)(c:wZ m g b d)(G:b.size<=140737488351232)(C:d+f<=1099511627776) :
 Calls prog 182 #[π (σ ⟨g,0,ν⟩),ι κ (f:Int)] m λj s=>j=τ (ι .u64 (rd b d f:Int))/\wZ s g b (d+f)/\m.grownBy s (σ g):=by
 go_in;go_wp2;go_loopw[5,8] (λk o wr=>∃a:Nat,a<=f/\o=ι κ a/\k=ι .u64 (rd b d a:Int)/\Hid (wZ wr g b (d+a))/\Hid (m.grownBy wr (σ g))) (λ_ o _=>f - (intOf o).toNat);case atStart=>exact⟨0,aK _,rfl,rfl,ak c,ak (World.grownBy.refl _ _)⟩
 case round=>obtain⟨a,E,rfl,rfl,i,n⟩:=hrel;clear c;by_cases B:a<f;{have H:(a:Int)<(f:Int):=(by omega);obtain⟨e,p⟩:=nm (d+a);have F:e<=1099511627776:=(by omega);have z:=i.J.text;have u:=i.J.used;have A:=i.J.free;rw[<- p]at u;have l:=ak p;have x:=N4 b d a;generalize hV:rd b d a=k at *;have r:=ak hV;clear p hV;by_cases y:e / 8<b.size;{have v:(e:Int) / 8<(b.size:Int):=(by omega);have D:=Ru b e y;have w:=aaf b (e / 8);generalize hBT:Cw b (e / 8)=bt at *;have t:=ak hBT;clear hBT;go_wp2_with fail;go_region;go_wp2_with fail;go_region;go_wp2_with fail;go_roundw;(case rel=>refine⟨a+1,by omega,by go_num,?_,ak ?_,ak ?_⟩;{rw[V9 k bt a e (by simpa using x) w];have j:rd b d (a+1)=k ||| (if a<64 then(bt.testBit (e % 8)).toNat*2 ^ a else 0):=(by show rd b d a ||| (if a<64 then(rL b (d+a)).toNat*2 ^ a else 0)=_;rw[r.J,<- l.J,rL,t.J]);rw[j]};{have c:=i.J.step ((e:Int)+1) (by rw[l.J];omega);exact c.jM rfl};have c:=n.J.trans (grownBy_setCell wr ⟨g,1,ν⟩ (ι κ ((e:Int)+1)));exact⟨c.os,c.tape,c.output,c.size,c.block⟩);case measure=>simp[intOf];omega};have v:(b.size:Int)<=(e:Int) / 8:=(by omega);go_wp2_with fail;go_quiet(fail);go_wp2_with fail;go_roundw;(case rel=>refine⟨a+1,by omega,by go_num,?_,ak ?_,ak ?_⟩;{have j:rd b d (a+1)=k:=(by show rd b d a ||| (if a<64 then(rL b (d+a)).toNat*2 ^ a else 0)=_;rw[r.J,<- l.J,rL,LR b _ (by omega)];simp);rw[j]};{have c:=i.J.step ((e:Int)+1) (by rw[l.J];omega);exact c.jM rfl};have c:=n.J.trans (grownBy_setCell wr ⟨g,1,ν⟩ (ι κ ((e:Int)+1)));exact⟨c.os,c.tape,c.output,c.size,c.block⟩);case measure=>simp[intOf];omega};obtain rfl:a=f:=(by omega);go_wp2;go_ret;exact⟨rfl,i.J,n.J⟩
theorem oh(b:Nat)(c:ByteArray)(d:Nat)(a:Int)(e:ω)(i:wZ e b c d)(l:c.size<=140737488351232)(j:0<=a)(k:d+a.toNat<=1099511627776) :
 Calls prog 182 #[π (σ ⟨b,0,ν⟩),ι κ a] e λg f=>g=τ (ι .u64 (rd c d a.toNat:Int))/\wZ f b c (d+a.toNat)/\e.grownBy f (σ b):=by obtain⟨a,rfl⟩:=iw j;rw[bN]at *;exact aeI b c d a e i l k
end S
