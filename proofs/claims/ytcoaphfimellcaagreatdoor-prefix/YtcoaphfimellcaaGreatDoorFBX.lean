import Derived.Test.YtcoaphfimellcaaGreatDoorFBV
import Derived.Test.YtcoaphfimellcaaGreatDoorFBW
set_option maxHeartbeats 0
set_option maxRecDepth 100000
namespace Go.Proofs.YtcoaphfimellcaaGreatDoor
variable{w:Nat}
def Hb:List UInt8->List UInt8->List (List UInt8)
 |_,[]=>[]
 |acc,c::t=>if c=10 then acc::Hb [] t else Hb (acc++[c]) t
def Ps(l:List UInt8):Prop:=∀c∈l,c≠10
theorem KL:∀{d a b:List UInt8},Ps d->Hb a (d++10::b)=(a++d)::Hb [] b
 |[],a,b,_=>by simp[Hb]
 |c::d,a,b,h=>by
   rw[eX,Hb,aE (h c (by simp)),KL (λe f=>h e (by simp[f]))];simp
theorem FG{b c:List UInt8}(e:Ps b)(f:Ps c):Ps (b++c):=λa d=>(bn.1 d).elim (e a) (f a)
theorem Yp{b:Nat->List UInt8}(d:∀a,Ps (b a))(g:Nat):Ps ((List.range g).flatMap b):=λc e=>by
 obtain⟨a,-,f⟩:=List.mem_flatMap.1 e;exact d a c f
theorem afH(a:Nat):Ps (G6 a):=by unfold Ps G6;split<;>simp
theorem ajh{a:List bu}(e:mS a)(b:Nat):Ps (yw a b):=by unfold yw;split;{rename_i c f;refine FG (FG (FG (afH b) (e.2 c (aA f)).1.2) (by unfold Ps;simp)) ?_;unfold Ps Cf;split;{decide};split<;>decide};exactλ_ d=>nomatch d
theorem Te(a:Nat):Ps (Lib.decDigits a):=λd c b=>by
 subst b
 cases FF a _ c
theorem aji{a:aB}(f:Lq w a):Ps (wrL a w):=by unfold wrL;split;{unfold Ps;decide};rename_i i;split;{rename_i g;subst g;have c:S.okB 1 (wD a)=true:=f.2;unfold S.okB S.FU at c;rw[aE (show¬(wD a).null=true from i),aE (by decide),aF rfl,cC,cC,eV]at c;refine FG (FG (by unfold Ps;simp) (λe d b=>?_)) (by unfold Ps;simp);subst b;cases c.2.2 _ d};split;{unfold Ps Lib.formatBool;split<;>decide};unfold Lib.itoa;split;{exactλe d=>(bq.1 d).elim (λb=>by rw[b];decide) (Te _ e)};exact Te _
theorem an8{b:List bu}{row:List aB}(d:zZ b row):Ps (pC b row b.length):=Yp (λa=>by
 unfold fieldAt;split
 . rename_i e c
   have f:a<row.length:=by rw[d.1];exact(aj.mp c).1
   exact FG (afH a) (aji (d.2 a (row.getD a gp) e (by simp[List.getD,List.getElem?_eq_getElem f]) c))
 . exactλ_ g=>nomatch g) _
theorem Tf{b:List bu}{a:List (List aB)}(d:fH b a):∀i (c:List UInt8),i<=a.length->Hb [] (nI b a i++c)=(a.take i).map (λf=>pC b f b.length)++Hb [] c
 |0,c,_=>by simp[nI]
 |i+1,c,h=>by
   have e:a[i]?=some a[i]:=af h;rw[yA e,bN,bN,Tf d i _ (by omega),List.singleton_append,KL (an8 (d _ (cF h))),ft h,cZ,bN];rfl
theorem Tg{a:List bu}{b:List (List aB)}(d:mS a)(e:fH a b):Hb [] (sU a b)=qT a a.length::b.map (λf=>pC a f a.length):=by have c:=Tf e b.length [] (ae _);unfold sU;rw[bN,List.singleton_append,KL (show Ps (qT a a.length)from Yp (ajh d) _)];rw[bX,eU]at c;rw[c];simp[Hb]
theorem Ti{q c a:ByteArray}{bud:Nat}{st:qV}(n:Gn st)(r:a.size<=maxLen)(o:Ic q=true)(m:dv c 0=[⟨.num w,0⟩,⟨.stop,c.size⟩]) :
 (oE bud st a (tL q c)).2=st/\C6 (oE bud st a (tL q c)).1/\
 ((oE bud st a q).1.2.1≠0/\((oE bud st a q).1=(oE bud st a (tL q c)).1\/(oE bud st a (tL q c)).1.2.1=1)\/
   (oE bud st a q).1.2.1=0/\((oE bud st a (tL q c)).1.2.1=10\/(oE bud st a (tL q c)).1.2.1=1\/
     (oE bud st a (tL q c)).1.2.1=0/\Hb [] (oE bud st a (tL q c)).1.1=(Hb [] (oE bud st a q).1.1).take (w+1))):=by obtain⟨k,l,e⟩:=Wv (bud:=bud) n r o m;refine⟨k,l,?_⟩;by_cases d:(oE bud st a q).1.2.1=0;{refine .inr ⟨d,?_⟩;rcases e with b|⟨b,-⟩|⟨-,b|⟨t,u,f,g,i,j⟩⟩;{exact .inr (.inl b)};{exact absurd d b};{exact .inl b};rw[i,j];refine .inr (.inr ⟨rfl,?_⟩);rw[Tg f g,Tg f (λs p=>g s (eH p)),List.map_take];rfl};refine .inl ⟨d,?_⟩;rcases e with b|⟨-,b⟩|⟨b,-⟩;{exact .inr b};{exact .inl b.symm};exact absurd b d
