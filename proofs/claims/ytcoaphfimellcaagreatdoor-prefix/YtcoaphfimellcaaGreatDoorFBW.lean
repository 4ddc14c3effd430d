import Derived.Test.YtcoaphfimellcaaGreatDoorFAA
import Derived.Lib.ItoaNum
set_option maxHeartbeats 0
set_option maxRecDepth 100000
namespace Go.Proofs.YtcoaphfimellcaaGreatDoor
section
open Go.Lib
theorem Ih{a:Nat}(b:a<10):(UInt8.ofNat (48+a)).toNat=48+a:=by rw[UInt8.toNat_ofNat'];omega
theorem FF(d:Nat):∀c∈decDigits d,cX c=true:=by
 intro c b;rw[decDigits]at b;split at b
 . rename_i a
   rw[a6]at b;subst b;unfold cX jP;rw[Ih a];simp;omega
 . rcases bn.1 b with a|a
   . exact FF (d / 10) c a
   . rw[a6]at a
     subst a;unfold cX jP;rw[Ih (by omega)];simp;omega
 termination_by d
 decreasing_by omega
theorem rO(b:List UInt8)(a:UInt8):mN (b++[a])=mN b*10+(a.toNat - 48):=by simp[mN,List.foldl_append]
theorem Nw(a:Nat):mN (decDigits a)=a:=by
 rw[decDigits];split
 . rename_i b
   rw[show[UInt8.ofNat (48+a)]=[]++[UInt8.ofNat (48+a)]from rfl,rO,Ih b];show 0*10+(48+a - 48)=a;omega
 . rw[rO,Nw (a / 10),Ih (by omega)]
   omega
 termination_by a
 decreasing_by omega
theorem ajg(a:Nat):0<(decDigits a).length:=by rw[decDigits];split<;>simp
theorem Ii:∀(b a:Nat),a<10 ^ (b+1)->(decDigits a).length<=b+1
 |0,a,h=>by
   rw[decDigits,ec (by simpa using h)];simp
 |b+1,a,h=>by
   rw[decDigits];split
   . simp
   . have:=Ii b (a / 10) (by rw[Nat.pow_succ]at h;omega)
     simp only[List.length_append,List.length_cons,List.length_nil];omega
theorem Nx(S:ByteArray)(b:UInt8->Bool)(e:∀a (f:a<S.size),b S[a]=true):∀d a,S.size - a<=d->a<=S.size->aP S b a=S.size
 |0,a,hk,f=>by rw[iG _ _ _ (by omega)];omega
 |d+1,a,hk,f=>by
   by_cases c:a<S.size
   . rw[dQ S b a c (e a c)]
     exact Nx S b e d (a+1) (by omega) (by omega)
   . rw[iG _ _ _ c]
     omega
def qY(n:Nat):ByteArray:=⟨(decDigits n).toArray⟩
theorem afG{n:Nat}(o:n<=9223372036854775807):dv (qY n) 0=[⟨.num n,0⟩,⟨.stop,(qY n).size⟩]:=by
 have i:(qY n).size=(decDigits n).length:=by simp[qY,ByteArray.size]
 have a:0<(qY n).size:=by rw[i];exact ajg n
 have c:∀d (g:d<(qY n).size),cX (qY n)[d]=true:=λd g=>FF n _ (show(decDigits n)[d]'(i ▸ g)∈decDigits n from cF _);have m:(decDigits n).length<=19:=Ii 18 n (by omega);have l:=Nx (qY n) cX c (qY n).size 0 (by omega) (aI _);have e:∀b:UInt8,cX b=true->da b=false/\bS b=false:=λb f=>by
  unfold cX jP at f;unfold da iV bS;simp at f ⊢;omega
 have k:(qY n).extract 0 (qY n).size=qY n:=ByteArray.extract_zero_size;have j:ez (qY n) 0 a=(.num n,(qY n).size):=(by unfold ez;rw[aE (by rw[(e _ (c 0 a)).1];simp),aF (c 0 a)];simp only[l,k];rw[show(qY n).data.toList=decDigits n by simp[qY],Nw,aE (by omega)]);rw[dv.eq_def,eY _ bS 0 a (e _ (c 0 a)).2];simp only[a,dif_pos,j];rw[gy (by simp[Tk.ends]),dv.eq_def];simp only[iG _ bS _ (Nat.lt_irrefl (qY n).size)];rw[gy (bM _)]
end
