import Derived.Test.YteniahoehoncjaaGreatDoorQAJ
import Derived.Laws.MathBits
set_option maxHeartbeats 99999999
set_option maxRecDepth 100000
namespace Go.Proofs.YteniahoehoncjaaGreatDoor
namespace S
structure Cl where
 null:Bool
 n:Int
 s:ByteArray
theorem Cl.ext' {a b:Cl}(h1:a.null=b.null)(h2:a.n=b.n)(h3:a.s=b.s):a=b:=by
 cases a;cases b;simp_all
def bZ (n:Int):Prop:=-9223372036854775808<=n/\n<=9223372036854775807
def qS (n:Int):Nat:=if n<0 then (2*(-n - 1)+1).toNat else (2*n).toNat
def oF (f:Nat):Int:=if f % 2=1 then -((f / 2:Nat):Int) - 1 else ((f / 2:Nat):Int)
theorem vV {n:Int}(h:bZ n):qS n<18446744073709551616:=by
 unfold qS;unfold bZ at h;split<;>omega
theorem Li (n:Int):oF (qS n)=n:=by
 unfold oF qS;by_cases h:n<0
 . rw [if_pos h,if_pos (by omega)];omega
 . rw [if_neg h,if_neg (by omega)];omega
theorem Lj {f:Nat}(h:f<18446744073709551616):bZ (oF f):=by
 unfold oF bZ;split<;>omega
theorem Bm (v:Nat):v<2 ^ bitLen v:=(bitLen_spec v).1
theorem bitLen_le (v b:Nat)(h:v<2 ^ b):bitLen v<=b:=by
 by_cases hv:v=0
 . subst hv;simp [bitLen]
 . have h1:=(bitLen_spec v).2 hv
   rcases Nat.lt_or_ge b (bitLen v) with h2|h2
   . have:2 ^ b<=2 ^ (bitLen v - 1):=Nat.pow_le_pow_right (by omega) (by omega)
     omega
   . exact h2
theorem lu {v:Nat}(h:v<18446744073709551616):bitLen v<=64:=bitLen_le v 64 (by simpa using h)
theorem Lk (m:Nat)(h:m<18446744073709551616):18446744073709551615 ^^^ m=18446744073709551615 - m:=by
 have e:=congrArg BitVec.toNat (BitVec.allOnes_xor (x:=BitVec.ofNat 64 m));rw [BitVec.toNat_xor,BitVec.toNat_not,BitVec.toNat_allOnes,BitVec.toNat_ofNat,Nat.mod_eq_of_lt (by simpa using h)] at e;simpa using e
theorem Vh (n:Int)(h:bZ n)(hn:n<0) :
 bits BinOp.or IntKind.u64 (IntKind.u64.wrap (bits BinOp.xor IntKind.u64 IntKind.u64.max (IntKind.u64.wrap n)*2)) 1=((qS n:Nat):Int):=by
 have hh:=h;unfold bZ at h;have e1:IntKind.u64.wrap n=(((n+18446744073709551616).toNat:Nat):Int):=by rw [IntKind.wrap_u64];omega
 have e2:IntKind.u64.max=((18446744073709551615:Nat):Int):=by decide
 rw [e1,e2,u64_xor_nat _ _ (by omega) (by omega),Lk _ (by omega),IntKind.wrap_u64];have e3:((18446744073709551615 - (n+18446744073709551616).toNat:Nat):Int)*2 % 18446744073709551616=((2*(-n - 1).toNat:Nat):Int):=by omega
 rw [e3];have e4:=u64_or_nat (2*(-n - 1).toNat) 1 (by omega) (by omega);have e5:(2*(-n - 1).toNat) ||| 1=2*(-n - 1).toNat+1:=by
  have:=nat_join 1 (2*(-n - 1).toNat) 1 (by omega) (by omega);exact this
 rw [e5] at e4;refine e4.trans ?_;unfold qS;rw [if_pos hn];omega
theorem GB (b:UInt8):IntKind.u64.wrap (b.toNat:Int)=(b.toNat:Int):=by
 have:=UInt8.toNat_lt b;rw [IntKind.wrap_u64];omega
def nC (n:Int):List Bool:=bitsOf (bitLen (qS n)+1) 8++bitsOf (qS n) (bitLen (qS n))
def gB (wd:Nat)(bs:List UInt8):List Bool:=bs.flatMap λb=>bitsOf b.toNat wd
def jC (k:Int)(c:Cl):List Bool:=
 if c.null then bitsOf 0 8 else if k=1 then bitsOf (c.s.size+1) 8++gB 8 c.s.data.toList else nC c.n
theorem ku (wd:Nat)(bs:List UInt8):(gB wd bs).length=bs.length*wd:=by
 induction bs with
 |nil=>simp [gB]
 |cons b r ih=>
   have e:gB wd (b::r)=bitsOf b.toNat wd++gB wd r:=rfl;rw [e,List.length_append,ih,bk,List.length_cons,Nat.succ_mul];omega
theorem yg (wd:Nat)(bs:List UInt8)(b:UInt8):gB wd (bs++[b])=gB wd bs++bitsOf b.toNat wd:=by
 simp [gB,List.flatMap_append]
theorem eU (s:ByteArray):s.data.toList.length=s.size:=by rw [Array.length_toList];rfl
theorem sC (n:Int):(nC n).length=8+bitLen (qS n):=by simp [nC,bk]
theorem Ec (k:Int)(c:Cl)(hn:bZ c.n):(jC k c).length<=72+8*c.s.size:=by
 unfold jC;have h:=lu (vV hn);split
 . simp [bk];omega
 . split
   . simp only [List.length_append,bk,ku,eU];omega
   . rw [sC];omega
def rdStr (s:ByteArray)(u wd:Nat):Nat->List UInt8
 |0=>[]
 |n+1=>rdStr s u wd n++[UInt8.ofNat (rd s (u+n*wd) wd % 256)]
theorem kE (s:ByteArray)(u wd n:Nat):(rdStr s u wd n).length=n:=by
 induction n with
 |zero=>rfl
 |succ n ih=>simp [rdStr,ih]
def da (s:ByteArray)(k:Int)(u:Nat):Cl×Nat:=
 if rd s u 8=0 then (⟨true,0,ByteArray.empty⟩,u+8)
 else if k=1 then (⟨false,0,⟨(rdStr s (u+8) 8 (rd s u 8 - 1)).toArray⟩⟩,u+8+(rd s u 8 - 1)*8)
 else (⟨false,oF (rd s (u+8) (rd s u 8 - 1)),ByteArray.empty⟩,u+8+(rd s u 8 - 1))
def vl (k:Int)(c:Cl):Prop:=
 bZ c.n/\(if c.null then c.n=0/\c.s=ByteArray.empty
  else if k=0 then c.s=ByteArray.empty
  else if k=1 then c.n=0/\c.s.size<=12/\∀b∈c.s.data.toList,32<=b.toNat/\b.toNat<=126/\b.toNat≠39
  else if k=2 then c.s=ByteArray.empty/\(c.n=0\/c.n=1)
  else False)
theorem Cn {s:ByteArray}{u wd:Nat}(bs:List UInt8)(hw:wd<=64)(hb:∀b∈bs,b.toNat<2 ^ wd) :
 ∀n,n<=bs.length->At s u (gB wd (bs.take n))->rdStr s u wd n=bs.take n:=by
 intro n
 induction n with
 |zero=>intro _ _;rfl
 |succ n ih=>
   intro hn jM;have et:bs.take (n+1)=bs.take n++[bs[n]]:=by rw [List.take_succ_eq_append_getElem hn]
   rw [et,yg,At.append] at jM;rw [et,rdStr,ih (by omega) jM.1];have hl:(gB wd (bs.take n)).length=n*wd:=by rw [ku,List.length_take,Nat.min_eq_left (by omega)]
   have h2:=jM.2;rw [hl] at h2;rw [kD h2 hw (hb _ (List.getElem_mem _))];congr 2;have:=UInt8.toNat_lt bs[n];rw [Nat.mod_eq_of_lt (by omega)];exact UInt8.ofNat_toNat
theorem JG {s:ByteArray}{k:Int}{u:Nat}{c:Cl}(hc:vl k c)(jM:At s u (jC k c)) :
 da s k u=(c,u+(jC k c).length):=by
 obtain ⟨hn,hc⟩:=hc;have yh:=vV hn;have fN:=lu yh;unfold jC at jM ⊢;by_cases h0:c.null=true
 . rw [if_pos h0] at jM hc ⊢
   unfold da;rw [if_pos (kD jM (by omega) (by omega)),bk];refine congrArg (λx=>(x,u+8)) (Cl.ext' h0.symm ?_ ?_)
   . exact hc.1.symm
   . exact hc.2.symm
 . rw [if_neg h0] at jM hc ⊢
   have h0':c.null=false:=by simpa using h0
   by_cases h1:k=1
   . subst h1
     rw [if_pos rfl] at jM ⊢;rw [if_neg (by omega),if_pos rfl] at hc;rw [At.append,bk] at jM;have e:=kD jM.1 (by omega) (by have:=hc.2.1;omega);unfold da;rw [if_neg (by rw [e];omega),if_pos rfl,e];have hs:=Cn (s:=s) (u:=u+8) (wd:=8) c.s.data.toList (by omega) (λb _=>UInt8.toNat_lt b) c.s.size (by rw [eU];omega)
      (by rw [List.take_of_length_le (by rw [eU];omega)];exact jM.2)
     rw [List.take_of_length_le (by rw [eU];omega)] at hs;rw [show c.s.size+1 - 1=c.s.size from rfl,hs];simp only [List.length_append,bk,ku,eU];refine Prod.ext (Cl.ext' h0'.symm hc.1.symm rfl) (by omega)
   . rw [if_neg h1] at jM ⊢
     unfold nC at jM ⊢;rw [At.append,bk] at jM;have e:=kD jM.1 (by omega) (by omega);unfold da;rw [if_neg (by rw [e];omega),if_neg h1,e,show bitLen (qS c.n)+1 - 1=bitLen (qS c.n) from rfl,kD jM.2 fN (Bm _),Li];simp only [List.length_append,bk];have Og:c.s=ByteArray.empty:=by
      by_cases QK:k=0
      . rw [if_pos QK] at hc;exact hc
      . rw [if_neg QK,if_neg h1] at hc
        by_cases nQ:k=2
        . rw [if_pos nQ] at hc;exact hc.1
        . rw [if_neg nQ] at hc;exact hc.elim
     refine Prod.ext (Cl.ext' h0'.symm rfl Og.symm) (by omega)
end S
end Go.Proofs.YteniahoehoncjaaGreatDoor
