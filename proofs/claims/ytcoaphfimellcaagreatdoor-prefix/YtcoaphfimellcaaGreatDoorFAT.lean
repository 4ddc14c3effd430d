import Derived.Test.YtcoaphfimellcaaGreatDoorFAS
import Derived.Test.YtcoaphfimellcaaGreatDoorFAM
set_option maxHeartbeats 0
set_option maxRecDepth 100000
namespace Go.Proofs.YtcoaphfimellcaaGreatDoor
open Go.RowKit
open _root_.Go.Proofs.Tryz
open Go.Value renaming string→θ,slice→ψ
def zi(a:List UInt8×Nat×Nat):Value:=.agg #[θ ⟨a.1.toArray⟩,.int .i64 (a.2.1:Nat),.int .i64 (a.2.2:Nat)]
theorem aiN(a:Int)(b:World):Calls prog 21 #[.int .i64 a] b λc d=>c=.returned (.int .i64 a)/\d=b:=by go_in;go_wp2_with fail;go_ret;exact⟨rfl,rfl⟩
theorem Gl(e c f b:Int)(d push:Bool)(a:World):Calls prog 19 #[.agg #[.int .i64 e,.int .i64 c,.int .i64 f,.bool d,.bool push,.int .i64 b]] a λg i=>g=.returned (.agg #[.int .i64 e,.int .i64 c,.int .i64 f,.bool d,.bool push,.int .i64 b])/\Below a.heap.size a i:=by
 go_in;go_wp2_with fail
 first
 | (go_returns;exact⟨rfl,by repeat(first|exact ah _ _|refine fR ?_ (by simp) _|refine iK ?_ (by simp) _)⟩)
 | (go_ret;exact⟨rfl,by repeat(first|exact ah _ _|refine fR ?_ (by simp) _|refine iK ?_ (by simp) _)⟩)
theorem En{a b:Bool}(c:a=b):Ending.returned (.bool a)=Ending.returned (.bool b):=by rw[c]
theorem Sv(b c:List UInt8×Nat×Nat)(d:World):Calls prog 14 #[zi b,zi c] d λe f=>e=.returned (.bool (decide (b=c)))/\Below d.heap.size d f:=by
 obtain⟨l,g,j⟩:=b;obtain⟨m,i,k⟩:=c;unfold zi;simp only;go_in;go_wp2_with fail;all_goals
  go_ret;refine⟨En ?_,((ah _ _).alloc (ae _) _).alloc (by simp) _⟩;rw[ld];simp only[beq_iff_eq,decide_eq_true_eq,Prod.mk.injEq,Bool.false_eq_true,false_iff]
  first
  | (constructor
     . exactλa=>⟨by assumption,by omega,by omega⟩
     . exactλa=>by omega)
  |exactλa=>absurd a.1 (by assumption)
  |exactλa=>by omega
def C6(a:List UInt8×Nat×Nat):Prop:=(a.2.1≠0/\a.1=[]/\a.2.1<=10/\a.2.2<=300)\/(a.2.1=0/\1<a.1.length/\a.1.length<=1000000000/\a.1[a.1.length - 1]?=some 10/\a.2.2=0)
theorem Eo{e:List UInt8×Nat×Nat}(g:C6 e)(j:World):Calls prog 12 #[zi e] j λr s=>r=.returned (.bool true)/\Below j.heap.size j s:=by
 obtain⟨a,f,l⟩:=e;unfold zi;simp only;rcases g with⟨c,d,i,b⟩|⟨c,d,i,b,k⟩;{simp only at c d i b;subst d;have t:((f:Int) != 0)=true:=(by rw[jD];omega);have u:(f:Int)>0:=(by omega);have v:(f:Int)<=10:=(by omega);have w:(l:Int)>=0:=(by omega);have x:(l:Int)<=300:=(by omega);go_in;go_wp2_with fail;all_goals go_ret;exact⟨by first|rfl|simp_all,(ah _ _).alloc (ae _) _⟩}
 simp only at c d i b k;subst c k;have p:∀g:a.length - 1<(⟨a.toArray⟩:ByteArray).size,(⟨a.toArray⟩:ByteArray)[a.length - 1]=10:=λg=>by
  have m:a.length - 1<a.length:=by omega
  rw[af m]at b;have n:=bk b;show a.toArray[a.length - 1]=10;simpa using n
 go_in;go_wp2_with fail;all_goals go_ret;exact⟨by first|rfl|(rename_i o;exact absurd (by rw[p];rfl) o)|simp_all|trace_state,(ah _ _).alloc (ae _) _⟩
theorem Gm(S:ByteArray)(c:World)(o:Laid c)(l:0<c.heap.size):Calls prog 10 #[θ S] c λp O=>p=.returned (.bool (Ic S))/\Below c.heap.size c O:=by
 have r:=au (Nb S c o l);clear o l;go_in;go_wp2_with fail;refine r.J.mono ?_;rintro p T ⟨⟨j,s,t,u,v,K,E,y,L,F,z,M,G,A,w,N,H,B,I,D,x,k,Q,rfl,f,g,-⟩,d⟩;have e:=d.alloc d.size (.cells #[θ j,θ s,.int .i64 t,θ u,.int .i64 v,ψ K E y,ψ L F z,ψ M G A,.int .i64 w,ψ N H B,ψ I D x] 41);have i:=au e;have b:(j.toList==[102,114,111,109])=Ic S:=by rw[eD];exact f
 by_cases n:k=0;{subst n;cases a:Ic S with|true=>(rw[a]at b;clear d f g e;go_wp2_with fail;all_goals go_ret;exact⟨En (by first|rfl|exact a.symm|exact b|simp_all),i.J⟩)|false=>rw[a]at b;clear d f g e;go_wp2_with fail;all_goals go_ret;exact⟨En (by first|rfl|exact a.symm|exact b|simp_all),i.J⟩};have P:((k:Int)==0)=false:=(by rw[aK];omega);have a:Ic S=false:=(by rcases g with⟨R,m,C⟩|m;{exact absurd C n};unfold Ic;rw[m]);clear d f g e b;go_wp2_with fail;all_goals go_ret;exact⟨En (by first|rfl|exact a.symm|exact b|simp_all),i.J⟩
