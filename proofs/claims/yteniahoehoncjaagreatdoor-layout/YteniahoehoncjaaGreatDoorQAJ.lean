
set_option maxHeartbeats 99999999
set_option maxRecDepth 100000
namespace Go.Proofs.YteniahoehoncjaaGreatDoor
namespace S
def bitsOf (v w:Nat):List Bool:=(List.range w).map v.testBit
theorem bk (v w:Nat):(bitsOf v w).length=w:=by simp [bitsOf]
theorem Lf (v:Nat):bitsOf v 0=[]:=rfl
theorem Lg (v w:Nat):bitsOf v (w+1)=bitsOf v w++[v.testBit w]:=by simp [bitsOf,List.range_succ]
theorem Oe (v w i:Nat)(h:i<w):(bitsOf v w).getD i false=v.testBit i:=by
 simp [bitsOf,List.getD,h]
structure Lays (bs:List Nat)(l:List Bool):Prop where
 len:bs.length=(l.length+7) / 8
 small:∀b∈bs,b<256
 bit:∀j i,i<8->(bs.getD j 0).testBit i=l.getD (8*j+i) false
structure vT (bs:List Nat)(l:List Bool):Prop where
 len:bs.length=l.length / 8+1
 small:∀b∈bs,b<256
 bit:∀j i,i<8->(bs.getD j 0).testBit i=l.getD (8*j+i) false
theorem Lays.nil:Lays [] []:=⟨rfl,by simp,by simp⟩
theorem uj {bs:List Nat}(h:∀b∈bs,b<256)(j:Nat):bs.getD j 0<256:=by
 by_cases hj:j<bs.length
 . simp only [List.getD,List.getElem?_eq_getElem hj,Option.getD_some]
   exact h _ (List.getElem_mem hj)
 . simp [List.getD,List.getElem?_eq_none (Nat.le_of_not_lt hj)]
theorem Lh {b i:Nat}(h:b<256)(hi:8<=i):b.testBit i=false:=by
 apply Nat.testBit_lt_two_pow;exact Nat.lt_of_lt_of_le h (by
  have:2 ^ 8<=2 ^ i:=Nat.pow_le_pow_right (by omega) hi;omega)
theorem Lays.unique {a b:List Nat}{l:List Bool}(ha:Lays a l)(hb:Lays b l):a=b:=by
 apply List.ext_getElem (by rw [ha.len,hb.len]);intro j h1 h2;apply Nat.eq_of_testBit_eq;intro i;have e1:a.getD j 0=a[j]:=by simp [List.getD,h1]
 have e2:b.getD j 0=b[j]:=by simp [List.getD,h2]
 rw [<- e1,<- e2];by_cases hi:i<8
 . rw [ha.bit j i hi,hb.bit j i hi]
 . rw [Lh (uj ha.small j) (by omega),Lh (uj hb.small j) (by omega)]
theorem Lays.Vc {bs:List Nat}{l:List Bool}(h:Lays bs l)(h8:l.length % 8≠0):vT bs l:=
 ⟨by rw [h.len];omega,h.small,h.bit⟩
theorem Lays.Vd {bs:List Nat}{l:List Bool}(h:Lays bs l)(h8:l.length % 8=0):vT (bs++[0]) l:=by
 refine ⟨by rw [List.length_append,h.len];simp;omega,?_,?_⟩
 . intro b hb
   rcases List.mem_append.1 hb with h1|h1
   . exact h.small b h1
   . simp at h1;omega
 . intro j i hi
   rw [<- h.bit j i hi];by_cases hj:j<bs.length
   . simp [List.getD,List.getElem?_append_left hj]
   . have e:bs.getD j 0=0:=by simp [List.getD,List.getElem?_eq_none (Nat.le_of_not_lt hj)]
     rw [e];by_cases hj2:j=bs.length
     . subst hj2;simp [List.getD]
     . simp [List.getD,List.getElem?_eq_none (show (bs++[0]).length<=j by simp;omega)]
theorem vT.put {bs:List Nat}{l:List Bool}(h:vT bs l)(b:Bool) :
 Lays (bs.set (l.length / 8) (bs.getD (l.length / 8) 0 ||| b.toNat*2 ^ (l.length % 8))) (l++[b]):=by
 have hp:b.toNat*2 ^ (l.length % 8)<256:=by
  have:2 ^ (l.length % 8)<=2 ^ 7:=Nat.pow_le_pow_right (by omega) (by omega)
  cases b<;>simp<;>omega
 have alQ:∀i,(b.toNat*2 ^ (l.length % 8)).testBit i=(decide (i=l.length % 8)&&b):=by
  intro i
  cases b
  . simp
  . simp [Nat.testBit_two_pow,eq_comm]
 have hor:bs.getD (l.length / 8) 0 ||| b.toNat*2 ^ (l.length % 8)<256:=
  Nat.or_lt_two_pow (n:=8) (uj h.small _) hp
 refine ⟨by rw [List.length_set,h.len];simp;omega,?_,?_⟩
 . intro c hc
   rcases List.mem_or_eq_of_mem_set hc with h1|h1
   . exact h.small c h1
   . rw [h1];exact hor
 . intro j i hi
   have hlen:=h.len;by_cases hj:j=l.length / 8
   . subst hj
     have e:(bs.set (l.length / 8) (bs.getD (l.length / 8) 0 ||| b.toNat*2 ^ (l.length % 8))).getD (l.length / 8) 0=bs.getD (l.length / 8) 0 ||| b.toNat*2 ^ (l.length % 8):=by
      simp [List.getD,show l.length / 8<bs.length by omega]
     rw [e,Nat.testBit_or,h.bit _ i hi,alQ];by_cases hi2:i=l.length % 8
     . have e2:8*(l.length / 8)+i=l.length:=by omega
       rw [e2];simp [List.getD,hi2]
     . simp only [hi2,decide_false,Bool.false_and,Bool.or_false]
       by_cases cF:8*(l.length / 8)+i<l.length
       . simp [List.getD,List.getElem?_append_left cF]
       . simp [List.getD,List.getElem?_eq_none (show l.length<=8*(l.length / 8)+i by omega),List.getElem?_eq_none (show (l++[b]).length<=8*(l.length / 8)+i by simp;omega)]
   . have e:(bs.set (l.length / 8) (bs.getD (l.length / 8) 0 ||| b.toNat*2 ^ (l.length % 8))).getD j 0=bs.getD j 0:=by
      simp [List.getD,List.getElem?_set_ne (Ne.symm hj)]
     rw [e,h.bit j i hi];by_cases cF:8*j+i<l.length
     . simp [List.getD,List.getElem?_append_left cF]
     . simp [List.getD,List.getElem?_eq_none (show l.length<=8*j+i by omega),List.getElem?_eq_none (show (l++[b]).length<=8*j+i by simp;omega)]
theorem Ck (v i:Nat):(v.testBit i).toNat=v / 2 ^ i % 2:=by
 rw [Nat.testBit_eq_decide_div_mod_eq];have:=Nat.mod_two_eq_zero_or_one (v / 2 ^ i);rcases this with h|h<;>simp [h]
def zH (s:ByteArray)(j:Nat):Nat:=(s.data.toList.getD j 0).toNat
theorem Ve (s:ByteArray)(j:Nat):zH s j<256:=UInt8.toNat_lt _
theorem JF (s:ByteArray)(j:Nat)(h:s.size<=j):zH s j=0:=by
 have e:s.data.toList.length=s.size:=by rw [Array.length_toList];rfl
 simp [zH,List.getD,List.getElem?_eq_none (show s.data.toList.length<=j by omega)]
def qh (s:ByteArray)(i:Nat):Bool:=(zH s (i / 8)).testBit (i % 8)
def rd (s:ByteArray)(u:Nat):Nat->Nat
 |0=>0
 |w+1=>rd s u w ||| (if w<64 then (qh s (u+w)).toNat*2 ^ w else 0)
theorem Ik (s:ByteArray)(u w:Nat):rd s u w<2 ^ 64:=by
 induction w with
 |zero=>simp [rd]
 |succ w ih=>
   simp only [rd];apply Nat.or_lt_two_pow ih;split
   . rename_i h
     have h1:2 ^ w<=2 ^ 63:=Nat.pow_le_pow_right (by omega) (by omega);have h2:(2:Nat) ^ 64=2*2 ^ 63:=by decide
     cases qh s (u+w)<;>simp<;>omega
   . simp
theorem Vf (s:ByteArray)(u w i:Nat):(rd s u w).testBit i=(decide (i<w)&&decide (i<64)&&qh s (u+i)):=by
 induction w with
 |zero=>simp [rd]
 |succ w ih=>
   simp only [rd,Nat.testBit_or,ih];have hb:((if w<64 then (qh s (u+w)).toNat*2 ^ w else 0):Nat).testBit i=(decide (w<64)&&decide (i=w)&&qh s (u+w)):=by
    split
    . rename_i h
      cases hs:qh s (u+w)
      . simp
      . simp [h,Nat.testBit_two_pow,eq_comm]
    . rename_i h;simp [h]
   rw [hb];by_cases h1:i=w
   . subst h1;simp
   . by_cases h2:i<w
     . simp [h1,h2,Nat.lt_succ_of_lt h2]
     . simp [h1,h2,show ¬i<w+1 by omega]
theorem je (s:ByteArray)(u w:Nat):rd s u w<2 ^ w:=by
 apply Nat.lt_pow_two_of_testBit;intro i hi;rw [Vf];simp [show ¬i<w by omega]
def At (s:ByteArray)(u:Nat)(l:List Bool):Prop:=∀i,i<l.length->qh s (u+i)=l.getD i false
theorem At.nil (s:ByteArray)(u:Nat):At s u []:=λi h=>by simp at h
theorem At.append {s:ByteArray}{u:Nat}{a b:List Bool}:At s u (a++b)↔At s u a/\At s (u+a.length) b:=by
 constructor
 . intro h
   refine ⟨λi hi=>?_,λi hi=>?_⟩
   . rw [h i (by simp;omega)];simp [List.getD,List.getElem?_append_left hi]
   . rw [Nat.add_assoc,h (a.length+i) (by simp;omega)];simp [List.getD,List.getElem?_append_right]
 . rintro ⟨h1,h2⟩ i hi
   by_cases hl:i<a.length
   . rw [h1 i hl];simp [List.getD,List.getElem?_append_left hl]
   . have:=h2 (i - a.length) (by simp at hi;omega)
     rw [Nat.add_assoc,show a.length+(i - a.length)=i by omega] at this;rw [this];simp [List.getD,List.getElem?_append_right (Nat.le_of_not_lt hl)]
theorem kD {s:ByteArray}{u v w:Nat}(h:At s u (bitsOf v w))(hw:w<=64)(hv:v<2 ^ w):rd s u w=v:=by
 apply Nat.eq_of_testBit_eq;intro i;rw [Vf];by_cases hi:i<w
 . have:=h i (by simpa [bk] using hi)
   rw [this,Oe _ _ _ hi];simp [hi,show i<64 by omega]
 . rw [Nat.testBit_lt_two_pow (Nat.lt_of_lt_of_le hv (Nat.pow_le_pow_right (by omega) (by omega)))]
   simp [hi]
theorem Lays.at {bs:List Nat}{l:List Bool}(h:Lays bs l)(s:ByteArray)(hs:∀j,zH s j=bs.getD j 0):At s 0 l:=by
 intro i _;simp only [qh,hs,Nat.zero_add];rw [h.bit _ _ (by omega),show 8*(i / 8)+i % 8=i by omega]
end S
end Go.Proofs.YteniahoehoncjaaGreatDoor
