import Derived.Test.YtcoaphfimellcaaGreatDoorQAY
import Derived.Test.YtcoaphfimellcaaGreatDoorQAM
set_option maxHeartbeats 0
set_option maxRecDepth 100000
namespace Go.Proofs.YtcoaphfimellcaaGreatDoor
open Go.RowKit
open _root_.Go.Proofs.Tryz
open Option renaming some→σ
open Go.IntKind renaming i64→κ
open Go.Ending renaming returned→τ
open Go.Obj renaming cells→ξ
open Go renaming World→ω,Value→υ
open Go.RowKit renaming Below→δ
open Go.Value renaming int→ι,string→θ,slice→ψ,agg→χ
def Kg(a:List UInt8×Nat×Nat):List υ:=[θ ⟨a.1.toArray⟩,ι κ (a.2.1:Nat),ι κ (a.2.2:Nat)]
def um(a:List UInt8×Nat×Nat):υ:=χ #[θ ⟨a.1.toArray⟩,ι κ (a.2.1:Nat),ι κ (a.2.2:Nat)]
theorem agd(a:Int)(b:ω):Calls prog 21 #[ι κ a] b λc d=>c=τ (ι κ a)/\d=b:=by go_in;go_wp2_with fail;go_ret;exact⟨rfl,rfl⟩
theorem uO(e c f b:Int)(d push:Bool)(a:ω):Calls prog 19 #[χ #[ι κ e,ι κ c,ι κ f,.bool d,.bool push,ι κ b]] a λg i=>g=τ (χ #[ι κ e,ι κ c,ι κ f,.bool d,.bool push,ι κ b])/\δ a.heap.size a i:=by
 go_in;go_wp2_with fail
 first
 | (go_returns;exact⟨rfl,by repeat(first|exact ah _ _|refine eX ?_ (by simp) _|refine gS ?_ (by simp) _)⟩)
 | (go_ret;exact⟨rfl,by repeat(first|exact ah _ _|refine eX ?_ (by simp) _|refine gS ?_ (by simp) _)⟩)
theorem rV{a b:Bool}(c:a=b):Ending.returned (.bool a)=Ending.returned (.bool b):=by rw[c]
theorem Dp(b c:List UInt8×Nat×Nat)(d:ω):Calls prog 14 #[um b,um c] d λe f=>e=τ (.bool (decide (b=c)))/\δ d.heap.size d f:=by
 obtain⟨l,g,j⟩:=b;obtain⟨m,i,k⟩:=c;unfold um;simp only;go_in;go_wp2_with fail;all_goals
  go_ret;refine⟨rV ?_,((ah _ _).alloc (ae _) _).alloc (by simp) _⟩;rw[kj];simp only[beq_iff_eq,decide_eq_true_eq,Prod.mk.injEq,Bool.false_eq_true,false_iff]
  first
  | (constructor
     . exactλa=>⟨by assumption,by omega,by omega⟩
     . exactλa=>by omega)
  |exactλa=>absurd a.1 (by assumption)
  |exactλa=>by omega
def TT(a:List UInt8×Nat×Nat):Prop:=(a.2.1≠0/\a.1=[]/\a.2.1<=10/\a.2.2<=300)\/(a.2.1=0/\1<a.1.length/\a.1.length<=1000000000/\a.1[a.1.length - 1]?=σ 10/\a.2.2=0)
theorem Dq{e:List UInt8×Nat×Nat}(g:TT e)(j:ω):Calls prog 12 #[um e] j λr s=>r=τ (.bool true)/\δ j.heap.size j s:=by
 obtain⟨a,f,l⟩:=e;unfold um;simp only;rcases g with⟨c,d,i,b⟩|⟨c,d,i,b,k⟩;{simp only at c d i b;subst d;have t:((f:Int) != 0)=true:=(by rw[jA];omega);have u:(f:Int)>0:=(by omega);have v:(f:Int)<=10:=(by omega);have w:(l:Int)>=0:=(by omega);have x:(l:Int)<=300:=(by omega);go_in;go_wp2_with fail;all_goals go_ret;exact⟨by first|rfl|simp_all,(ah _ _).alloc (ae _) _⟩}
 simp only at c d i b k;subst c k;have p:∀g:a.length - 1<(⟨a.toArray⟩:ByteArray).size,(⟨a.toArray⟩:ByteArray)[a.length - 1]=10:=λg=>by
  have m:a.length - 1<a.length:=by omega
  rw[af m]at b;have n:=bf b;show a.toArray[a.length - 1]=10;simpa using n
 go_in;go_wp2_with fail;all_goals go_ret;exact⟨by first|rfl|(rename_i o;exact absurd (by rw[p];rfl) o)|simp_all|trace_state,(ah _ _).alloc (ae _) _⟩
theorem uQ(S:ByteArray)(c:ω)(o:Laid c)(l:0<c.heap.size):Calls prog 10 #[θ S] c λp O=>p=τ (.bool (Gs S))/\δ c.heap.size c O:=by
 have r:=ak (Lv S c o l);clear o l;go_in;go_wp2_with fail;refine r.J.mono ?_;rintro p T ⟨⟨j,v,w,x,y,K,F,A,L,G,B,M,H,C,z,N,I,D,s,t,u,k,Q,rfl,f,g⟩,d⟩;have e:=d.alloc d.size (ξ #[θ j,θ v,ι κ w,θ x,ι κ y,ψ K F A,ψ L G B,ψ M H C,ι κ z,ψ N I D,ψ s t u] 41);have i:=ak e;have b:(j.toList==[102,114,111,109])=Gs S:=by rw[dK];exact f
 by_cases n:k=0
 .subst n
  cases a:Gs S with
  |true=>
    rw[a]at b;clear d f g e;go_wp2_with fail
    all_goals
     go_ret;exact⟨rV (by first|rfl|exact a.symm|exact b|simp_all),i.J⟩
  |false=>
    rw[a]at b;clear d f g e;go_wp2_with fail
    all_goals
     go_ret;exact⟨rV (by first|rfl|exact a.symm|exact b|simp_all),i.J⟩
 have P:((k:Int)==0)=false:=(by rw[aL];omega);have a:Gs S=false:=(by rcases g with⟨R,m,E⟩|m;{exact absurd E n};unfold Gs;rw[m]);clear d f g e b;go_wp2_with fail;all_goals go_ret;exact⟨rV (by first|rfl|exact a.symm|exact b|simp_all),i.J⟩
