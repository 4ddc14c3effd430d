
set_option maxHeartbeats 0
set_option maxRecDepth 100000
namespace Go.Proofs.YtcoaphfimellcaaGreatDoor
variable{w:List Bool}{p:List Nat}{m:ByteArray}{x v:Nat}
namespace S
def bitsOf(v w:Nat):List Bool:=(List.range w).map v.testBit
theorem bM(b a:Nat):(bitsOf b a).length=a:=by simp[bitsOf]
theorem N1(a:Nat):bitsOf a 0=[]:=rfl
theorem N2(a b:Nat):bitsOf a (b+1)=bitsOf a b++[a.testBit b]:=by simp[bitsOf,List.range_succ]
theorem Rt(b c a:Nat)(d:a<c):(bitsOf b c).getD a false=b.testBit a:=by simp[bitsOf,List.getD,d]
structure Lays (bs:List Nat)(l:List Bool):Prop where
 len:bs.length=(l.length+7) / 8
 small:∀b∈bs,b<256
 bit:∀j i,i<8->(bs.getD j 0).testBit i=l.getD (8*j+i) false
structure yI (bs:List Nat)(l:List Bool):Prop where
 len:bs.length=l.length / 8+1
 small:∀b∈bs,b<256
 bit:∀j i,i<8->(bs.getD j 0).testBit i=l.getD (8*j+i) false
theorem Lays.nil:Lays [] []:=⟨rfl,by simp,by simp⟩
theorem wX{bs:List Nat}(d:∀c∈bs,c<256)(b:Nat):bs.getD b 0<256:=by by_cases a:b<bs.length;{simp only[List.getD,List.getElem?_eq_getElem a,Option.getD_some];exact d _ (List.getElem_mem a)};simp[List.getD,List.getElem?_eq_none (Nat.le_of_not_lt a)]
theorem N3(a:x<256)(b:8<=v):x.testBit v=false:=by
 apply Nat.testBit_lt_two_pow;exact Nat.lt_of_lt_of_le a (by
  have:2 ^ 8<=2 ^ v:=Nat.pow_le_pow_right (by omega) b;omega)
theorem Lays.unique{b:List Nat}(c:Lays p w)(d:Lays b w):p=b:=by
 apply List.ext_getElem (by rw[c.len,d.len]);intro a j k;apply Nat.eq_of_testBit_eq;intro e;have g:p.getD a 0=p[a]:=by simp[List.getD,j]
 have i:b.getD a 0=b[a]:=by simp[List.getD,k]
 rw[<- g,<- i];by_cases f:e<8;{rw[c.bit a e f,d.bit a e f]};rw[N3 (wX c.small a) (by omega),N3 (wX d.small a) (by omega)]
theorem Lays.aac{bs:List Nat}(a:Lays bs w)(b:w.length % 8≠0):yI bs w:=
 ⟨by rw[a.len];omega,a.small,a.bit⟩
theorem Lays.aad{bs:List Nat}(b:Lays bs w)(l:w.length % 8=0):yI (bs++[0]) w:=by refine⟨by rw[List.length_append,b.len];simp;omega,?_,?_⟩;{intro e g;rcases List.mem_append.1 g with c|c;{exact b.small e c};simp at c;omega};intro a k i;rw[<- b.bit a k i];by_cases d:a<bs.length;{simp[List.getD,List.getElem?_append_left d]};have f:bs.getD a 0=0:=(by simp[List.getD,List.getElem?_eq_none (Nat.le_of_not_lt d)]);rw[f];by_cases j:a=bs.length;{subst j;simp[List.getD]};simp[List.getD,List.getElem?_eq_none (show(bs++[0]).length<=a by simp;omega)]
theorem yI.put{bs:List Nat}(d:yI bs w)(b:Bool) :
 Lays (bs.set (w.length / 8) (bs.getD (w.length / 8) 0 ||| b.toNat*2 ^ (w.length % 8))) (w++[b]):=by
 have r:b.toNat*2 ^ (w.length % 8)<256:=(by have:2 ^ (w.length % 8)<=2 ^ 7:=Nat.pow_le_pow_right (by omega) (by omega);cases b<;>simp<;>omega);have l:∀a,(b.toNat*2 ^ (w.length % 8)).testBit a=(decide (a=w.length % 8)&&b):=(by intro a;cases b;{simp};simp[Nat.testBit_two_pow,eq_comm]);have p:bs.getD (w.length / 8) 0 ||| b.toNat*2 ^ (w.length % 8)<256:=
  Nat.or_lt_two_pow (n:=8) (wX d.small _) r
 refine⟨by rw[List.length_set,d.len];simp;omega,?_,?_⟩;{intro m o;rcases List.mem_or_eq_of_mem_set o with g|g;{exact d.small m g};rw[g];exact p};intro c a i;have s:=d.len;by_cases k:c=w.length / 8;{subst k;have f:(bs.set (w.length / 8) (bs.getD (w.length / 8) 0 ||| b.toNat*2 ^ (w.length % 8))).getD (w.length / 8) 0=bs.getD (w.length / 8) 0 ||| b.toNat*2 ^ (w.length % 8):=(by simp[List.getD,show w.length / 8<bs.length by omega]);rw[f,Nat.testBit_or,d.bit _ a i,l];by_cases j:a=w.length % 8;{have n:8*(w.length / 8)+a=w.length:=(by omega);rw[n];simp[List.getD,j]};simp only[j,decide_false,Bool.false_and,Bool.or_false];by_cases e:8*(w.length / 8)+a<w.length;{simp[List.getD,List.getElem?_append_left e]};simp[List.getD,List.getElem?_eq_none (show w.length<=8*(w.length / 8)+a by omega),List.getElem?_eq_none (show(w++[b]).length<=8*(w.length / 8)+a by simp;omega)]};have f:(bs.set (w.length / 8) (bs.getD (w.length / 8) 0 ||| b.toNat*2 ^ (w.length % 8))).getD c 0=bs.getD c 0:=(by simp[List.getD,List.getElem?_set_ne (Ne.symm k)]);rw[f,d.bit c a i];by_cases e:8*c+a<w.length;{simp[List.getD,List.getElem?_append_left e]};simp[List.getD,List.getElem?_eq_none (show w.length<=8*c+a by omega),List.getElem?_eq_none (show(w++[b]).length<=8*c+a by simp;omega)]
theorem ES(b a:Nat):(b.testBit a).toNat=b / 2 ^ a % 2:=by rw[Nat.testBit_eq_decide_div_mod_eq];have:=Nat.mod_two_eq_zero_or_one (b / 2 ^ a);rcases this with c|c<;>simp[c]
def Cw(s:ByteArray)(j:Nat):Nat:=(s.data.toList.getD j 0).toNat
theorem aaf(b:ByteArray)(a:Nat):Cw b a<256:=UInt8.toNat_lt _
theorem LR(a:ByteArray)(b:Nat)(d:a.size<=b):Cw a b=0:=by
 have c:a.data.toList.length=a.size:=by rw[Array.length_toList];rfl
 simp[Cw,List.getD,List.getElem?_eq_none (show a.data.toList.length<=b by omega)]
def rL(s:ByteArray)(i:Nat):Bool:=(Cw s (i / 8)).testBit (i % 8)
def rd(s:ByteArray)(u:Nat):Nat->Nat
 |0=>0
 |w+1=>rd s u w ||| (if w<64 then(rL s (u+w)).toNat*2 ^ w else 0)
theorem N4(b:ByteArray)(c a:Nat):rd b c a<2 ^ 64:=by
 induction a with
 |zero=>simp[rd]
 |succ a d=>
   simp only[rd];apply Nat.or_lt_two_pow d;split
   . rename_i e
     have f:2 ^ a<=2 ^ 63:=Nat.pow_le_pow_right (by omega) (by omega);have g:(2:Nat) ^ 64=2*2 ^ 63:=by decide
     cases rL b (c+a)<;>simp<;>omega
   . simp
theorem aag(c:ByteArray)(d a b:Nat):(rd c d a).testBit b=(decide (b<a)&&decide (b<64)&&rL c (d+b)):=by
 induction a with
 |zero=>simp[rd]
 |succ a j=>
   simp only[rd,Nat.testBit_or,j];have i:((if a<64 then(rL c (d+a)).toNat*2 ^ a else 0):Nat).testBit b=(decide (a<64)&&decide (b=a)&&rL c (d+a)):=by
    split
    . rename_i e
      cases hs:rL c (d+a)
      . simp
      . simp[e,Nat.testBit_two_pow,eq_comm]
    . rename_i e;simp[e]
   rw[i];by_cases f:b=a
   . subst f;simp
   . by_cases g:b<a
     . simp[f,g,Nat.lt_succ_of_lt g]
     . simp[f,g,show¬b<a+1 by omega]
theorem kU(c:ByteArray)(d a:Nat):rd c d a<2 ^ a:=by apply Nat.lt_pow_two_of_testBit;intro b e;rw[aag];simp[show¬b<a by omega]
def At(s:ByteArray)(u:Nat)(l:List Bool):Prop:=∀i,i<l.length->rL s (u+i)=l.getD i false
theorem At.nil(b:ByteArray)(c:Nat):At b c []:=λd a=>by simp at a
theorem At.append{d:List Bool}:At m x (w++d)↔At m x w/\At m (x+w.length) d:=by constructor;{intro e;refine⟨λa b=>?_,λa b=>?_⟩;{rw[e a (by simp;omega)];simp[List.getD,List.getElem?_append_left b]};rw[Nat.add_assoc,e (w.length+a) (by simp;omega)];simp[List.getD,List.getElem?_append_right]};rintro⟨f,g⟩ a b;by_cases c:a<w.length;{rw[f a c];simp[List.getD,List.getElem?_append_left c]};have:=g (a - w.length) (by simp at b;omega);rw[Nat.add_assoc,show w.length+(a - w.length)=a by omega]at this;rw[this];simp[List.getD,List.getElem?_append_right (Nat.le_of_not_lt c)]
theorem lJ{a:Nat}(d:At m x (bitsOf v a))(f:a<=64)(e:v<2 ^ a):rd m x a=v:=by apply Nat.eq_of_testBit_eq;intro c;rw[aag];by_cases b:c<a;{have:=d c (by simpa[bM]using b);rw[this,Rt _ _ _ b];simp[b,show c<64 by omega]};rw[Nat.testBit_lt_two_pow (Nat.lt_of_lt_of_le e (Nat.pow_le_pow_right (by omega) (by omega)))];simp[b]
theorem Lays.at{bs:List Nat}(d:Lays bs w)(c:ByteArray)(e:∀b,Cw c b=bs.getD b 0):At c 0 w:=by intro a _;simp only[rL,e,Nat.zero_add];rw[d.bit _ _ (by omega),show 8*(a / 8)+a % 8=a by omega]
end S
