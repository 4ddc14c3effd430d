import Derived.Test.YtcoaphfimellcaaGreatDoorQAN
import Derived.Laws.MathBits
set_option maxHeartbeats 0
set_option maxRecDepth 100000
namespace Go.Proofs.YtcoaphfimellcaaGreatDoor
variable{w:Int}{p:Nat}
namespace S
structure Cl where
 null:Bool
 n:Int
 s:ByteArray
theorem Cl.ext'{a b:Cl}(c:a.null=b.null)(d:a.n=b.n)(e:a.s=b.s):a=b:=by cases a;cases b;simp_all
def cK(n:Int):Prop:=-9223372036854775808<=n/\n<=9223372036854775807
def tF(n:Int):Nat:=if n<0 then(2*(-n - 1)+1).toNat else(2*n).toNat
def qi(f:Nat):Int:=if f % 2=1 then -((f / 2:Nat):Int) - 1 else((f / 2:Nat):Int)
theorem yJ(a:cK w):tF w<18446744073709551616:=by unfold tF;unfold cK at a;split<;>omega
theorem N5(a:Int):qi (tF a)=a:=by unfold qi tF;by_cases b:a<0;{rw[if_pos b,if_pos (by omega)];omega};rw[if_neg b,if_neg (by omega)];omega
theorem N6(a:p<18446744073709551616):cK (qi p):=by unfold qi cK;split<;>omega
theorem DV(a:Nat):a<2 ^ bitLen a:=(bitLen_spec a).1
theorem bitLen_le(a b:Nat)(e:a<2 ^ b):bitLen a<=b:=by by_cases d:a=0;{subst d;simp[bitLen]};have f:=(bitLen_spec a).2 d;rcases Nat.lt_or_ge b (bitLen a)with c|c;{have:2 ^ b<=2 ^ (bitLen a - 1):=Nat.pow_le_pow_right (by omega) (by omega);omega};exact c
theorem mS(a:p<18446744073709551616):bitLen p<=64:=bitLen_le p 64 (by simpa using a)
theorem N7(a:Nat)(c:a<18446744073709551616):18446744073709551615 ^^^ a=18446744073709551615 - a:=by have b:=congrArg BitVec.toNat (BitVec.allOnes_xor (x:=BitVec.ofNat 64 a));rw[BitVec.toNat_xor,BitVec.toNat_not,BitVec.toNat_allOnes,BitVec.toNat_ofNat,Nat.mod_eq_of_lt (by simpa using c)]at b;simpa using b
theorem aah(a:Int)(c:cK a)(i:a<0) :
 bits BinOp.or IntKind.u64 (IntKind.u64.wrap (bits BinOp.xor IntKind.u64 IntKind.u64.max (IntKind.u64.wrap a)*2)) 1=((tF a:Nat):Int):=by
 have j:=c;unfold cK at c;have d:IntKind.u64.wrap a=(((a+18446744073709551616).toNat:Nat):Int):=by rw[IntKind.wrap_u64];omega
 have e:IntKind.u64.max=((18446744073709551615:Nat):Int):=by decide
 rw[d,e,u64_xor_nat _ _ (by omega) (by omega),N7 _ (by omega),IntKind.wrap_u64];have f:((18446744073709551615 - (a+18446744073709551616).toNat:Nat):Int)*2 % 18446744073709551616=((2*(-a - 1).toNat:Nat):Int):=by omega
 rw[f];have b:=u64_or_nat (2*(-a - 1).toNat) 1 (by omega) (by omega);have g:(2*(-a - 1).toNat) ||| 1=2*(-a - 1).toNat+1:=(by have:=nat_join 1 (2*(-a - 1).toNat) 1 (by omega) (by omega);exact this);rw[g]at b;refine b.trans ?_;unfold tF;rw[if_pos i];omega
theorem JE(a:UInt8):IntKind.u64.wrap (a.toNat:Int)=(a.toNat:Int):=by have:=UInt8.toNat_lt a;rw[IntKind.wrap_u64];omega
def pA(n:Int):List Bool:=bitsOf (bitLen (tF n)+1) 8++bitsOf (tF n) (bitLen (tF n))
def jr(wd:Nat)(bs:List UInt8):List Bool:=bs.flatMap λb=>bitsOf b.toNat wd
def kN(k:Int)(c:Cl):List Bool:=
 if c.null then bitsOf 0 8 else if k=1 then bitsOf (c.s.size+1) 8++jr 8 c.s.data.toList else pA c.n
theorem lE(a:Nat)(bs:List UInt8):(jr a bs).length=bs.length*a:=by
 induction bs with
 |nil=>simp[jr]
 |cons b c e=>
   have d:jr a (b::c)=bitsOf b.toNat a++jr a c:=rfl;rw[d,List.length_append,e,bM,List.length_cons,Nat.succ_mul];omega
theorem AX(a:Nat)(bs:List UInt8)(b:UInt8):jr a (bs++[b])=jr a bs++bitsOf b.toNat a:=by simp[jr,List.flatMap_append]
theorem iq(a:ByteArray):a.data.toList.length=a.size:=by rw[Array.length_toList];rfl
theorem uZ(a:Int):(pA a).length=8+bitLen (tF a):=by simp[pA,bM]
theorem G3(c:Int)(a:Cl)(b:cK a.n):(kN c a).length<=72+8*a.s.size:=by unfold kN;have d:=mS (yJ b);split;{simp[bM];omega};split;{simp only[List.length_append,bM,lE,iq];omega};rw[uZ];omega
def rdStr(s:ByteArray)(u wd:Nat):Nat->List UInt8
 |0=>[]
 |n+1=>rdStr s u wd n++[UInt8.ofNat (rd s (u+n*wd) wd % 256)]
theorem lK(c:ByteArray)(d e a:Nat):(rdStr c d e a).length=a:=by
 induction a with
 |zero=>rfl
 |succ a b=>simp[rdStr,b]
def ec(s:ByteArray)(k:Int)(u:Nat):Cl×Nat:=
 if rd s u 8=0 then(⟨true,0,ByteArray.empty⟩,u+8)
 else if k=1 then(⟨false,0,⟨(rdStr s (u+8) 8 (rd s u 8 - 1)).toArray⟩⟩,u+8+(rd s u 8 - 1)*8)
 else(⟨false,qi (rd s (u+8) (rd s u 8 - 1)),ByteArray.empty⟩,u+8+(rd s u 8 - 1))
def xR(k:Int)(c:Cl):Prop:=
 cK c.n/\(if c.null then c.n=0/\c.s=ByteArray.empty
  else if k=0 then c.s=ByteArray.empty
  else if k=1 then c.n=0/\c.s.size<=12/\∀b∈c.s.data.toList,32<=b.toNat/\b.toNat<=126/\b.toNat≠39
  else if k=2 then c.s=ByteArray.empty/\(c.n=0\/c.n=1)
  else False)
theorem ET{s:ByteArray}{u wd:Nat}(bs:List UInt8)(j:wd<=64)(f:∀e∈bs,e.toNat<2 ^ wd) :
 ∀a,a<=bs.length->At s u (jr wd (bs.take a))->rdStr s u wd a=bs.take a:=by
 intro a
 induction a with
 |zero=>intro _ _;rfl
 |succ a k=>
   intro i b;have c:bs.take (a+1)=bs.take a++[bs[a]]:=by rw[List.take_succ_eq_append_getElem i]
   rw[c,AX,At.append]at b;rw[c,rdStr,k (by omega) b.1];have g:(jr wd (bs.take a)).length=a*wd:=by rw[lE,List.length_take,Nat.min_eq_left (by omega)]
   have d:=b.2;rw[g]at d;rw[lJ d j (f _ (List.getElem_mem _))];congr 2;have:=UInt8.toNat_lt bs[a];rw[Nat.mod_eq_of_lt (by omega)];exact UInt8.ofNat_toNat
theorem LS{s:ByteArray}{u:Nat}{b:Cl}(a:xR w b)(c:At s u (kN w b)) :
 ec s w u=(b,u+(kN w b).length):=by
 obtain⟨o,a⟩:=a;have l:=yJ o;have p:=mS l;unfold kN at c ⊢;by_cases e:b.null=true;{rw[if_pos e]at c a ⊢;unfold ec;rw[if_pos (lJ c (by omega) (by omega)),bM];refine congrArg (λr=>(r,u+8)) (Cl.ext' e.symm ?_ ?_);{exact a.1.symm};exact a.2.symm}
 rw[if_neg e]at c a ⊢;have g:b.null=false:=by simpa using e
 by_cases f:w=1
 .subst f;rw[if_pos rfl]at c ⊢;rw[if_neg (by omega),if_pos rfl]at a;rw[At.append,bM]at c;have d:=lJ c.1 (by omega) (by have:=a.2.1;omega);unfold ec;rw[if_neg (by rw[d];omega),if_pos rfl,d];have i:=ET (s:=s) (u:=u+8) (wd:=8) b.s.data.toList (by omega) (λn _=>UInt8.toNat_lt n) b.s.size (by rw[iq];omega)
   (by rw[List.take_of_length_le (by rw[iq];omega)];exact c.2)
  rw[List.take_of_length_le (by rw[iq];omega)]at i;rw[show b.s.size+1 - 1=b.s.size from rfl,i];simp only[List.length_append,bM,lE,iq];refine Prod.ext (Cl.ext' g.symm a.1.symm rfl) (by omega)
 rw[if_neg f]at c ⊢;unfold pA at c ⊢;rw[At.append,bM]at c;have d:=lJ c.1 (by omega) (by omega);unfold ec;rw[if_neg (by rw[d];omega),if_neg f,d,show bitLen (tF b.n)+1 - 1=bitLen (tF b.n)from rfl,lJ c.2 p (DV _),N5];simp only[List.length_append,bM];have m:b.s=ByteArray.empty:=(by by_cases k:w=0;{rw[if_pos k]at a;exact a};rw[if_neg k,if_neg f]at a;by_cases j:w=2;{rw[if_pos j]at a;exact a.1};rw[if_neg j]at a;exact a.elim);refine Prod.ext (Cl.ext' g.symm rfl m.symm) (by omega)
end S
