import Derived.Test.YtcoaphfimellcaaGreatDoorQAK
import Derived.Test.YtcoaphfimellcaaGreatDoorQAY
set_option maxHeartbeats 0
set_option maxRecDepth 100000
namespace Go.Proofs.YtcoaphfimellcaaGreatDoor
open Option renaming some→σ
variable{w:Nat}{p:Int}
theorem SY{cols:List br}{row:List aD}(c:BD cols row):gI cols row:=by refine⟨c.1,λf b g d e k=>?_⟩;have a:=(S.yN (c:=xh b) (c.2 f b g d e).1 (c.2 f b g d e).2).2;rw[k]at a;obtain⟨i,l,m⟩:=b;cases i;{simp[xh]at a;obtain⟨rfl,j⟩:=a;rcases j with rfl|rfl;{exact .inr (.inl rfl)};exact .inr (.inr rfl)};simp[xh]at a;obtain⟨rfl,rfl⟩:=a;exact .inl rfl
theorem Ae{v:Al}(k:MF v)(g:v.null=true\/v.kind=(w:Int)):Mi w ⟨v.null,v.n,v.s⟩:=by
 obtain⟨t,p,s,r,i⟩:=v;rcases k with⟨d,e,a⟩|⟨d,e⟩;{simp only at d e a;subst d e a;exact⟨by unfold S.cK;simp,by unfold S.okB xh;simp⟩}
 simp only at d e g;subst d;have g:p=(w:Int):=by simpa using g
 subst g;rcases e with⟨a,b,f⟩|⟨a,b,f,l⟩|⟨a,b,f⟩
 {subst f;exact⟨b,by unfold S.okB xh;simp[a]⟩}
 .subst b
  refine⟨by unfold S.cK;simp,?_⟩;have o:i.data.toList.all S.DZ=true:=ez.mpr (λj m=>by
   have:=l j m;unfold fq at this;unfold S.DZ;simp at this ⊢;omega)
  have n:S.G7 i=true:=by unfold S.G7;rw[o];simp[f]
  show(if false=true then _ else if(w:Int)=0 then _ else if(w:Int)=1 then decide ((0:Int)=0)&&S.G7 i else _)=true;rw[aE (by simp),aE (by omega),aF a,n];rfl
 subst f;refine⟨by rcases b with c|c<;>(rw[c];unfold S.cK;simp),?_⟩;unfold S.okB xh;rcases b with c|c<;>simp[a,c]
theorem Gi(a:cK p):Mi 0 (po p):=Ae (v:=⟨0,0,false,p,ByteArray.empty⟩) (.inr ⟨rfl,.inl ⟨rfl,a,rfl⟩⟩) (.inr rfl)
theorem Pd(a:Nat):Mi a fD:=Ae (v:=⟨0,0,true,0,ByteArray.empty⟩) (.inl ⟨rfl,rfl,rfl⟩) (.inl rfl)
theorem abr{a:aD}(b:rN a):Mi 2 a:=by rcases b with rfl|rfl|rfl;{exact Pd 2};{exact Ae (v:=⟨0,2,false,0,ByteArray.empty⟩) (.inr ⟨rfl,.inr (.inr ⟨rfl,.inl rfl,rfl⟩)⟩) (.inr rfl)};exact Ae (v:=⟨0,2,false,1,ByteArray.empty⟩) (.inr ⟨rfl,.inr (.inr ⟨rfl,.inr rfl,rfl⟩)⟩) (.inr rfl)
theorem Pe(a:Int):cK (Go.RowKit.wrap64 a):=by unfold Go.RowKit.wrap64 cK;omega
theorem abt(a:Int):cK (IntKind.i64.wrap a):=by rw[jC];unfold cK;omega
theorem afx(a:Int)(d:cK p):cK (p.tmod a):=by
 have e:(p.tmod a).natAbs<=p.natAbs:=by rw[Int.natAbs_tmod];exact Nat.mod_le _ _
 unfold cK at *;rcases Int.lt_or_le p 0 with b|b
 {have c:=Int.tmod_nonneg (a:=-p) a (by omega);rw[Int.neg_tmod]at c;omega};have c:=Int.tmod_nonneg (a:=p) a b;omega
theorem afy{a:Int}(b:cK p):cK (tO w p a).1:=by
 unfold tO A9;repeat' split
 all_goals first|exact Pe _|exact abt _|exact afx _ b|(unfold cK;simp;done)
theorem abu{cols:List br}{row:List aD}(n:BD cols row)(c:Ex)(l:pz c)(g:zj c)(b:cH cols c=.inl w){d:aD}(a:cU cols row c=.inl d):Mi w d:=by
 by_cases f:w=2
 . subst f
   exact abr (pR (SY n) c l b a)
 induction c generalizing d w with
 |num D=>cases b;cases a;exact Gi (by unfold cK;have:D<=9223372036854775807:=g;omega)
 |str t=>cases b;cases a;exact Ae (v:=⟨0,1,false,0,t⟩) (.inr ⟨rfl,.inr (.inl ⟨rfl,rfl,g.1,g.2⟩)⟩) (.inr rfl)
 |junk=>cases b;cases a;exact Gi (by unfold cK;decide)
 |bool H=>cases b;exact absurd rfl f
 |col t k=>
   simp only[cH]at b
   cases hf:cols.find? (λd=>iZ d.1 t)with
   |none=>rw[hf]at b;cases b
   |some B=>
     rw[hf]at b;obtain⟨r,y,e⟩:=Mz hf;simp only[cU,y]at a;have u:r<row.length:=by rw[n.1];exact(aj.mp e).1
     have z:row[r]?=σ d:=by rw[af u];rw[<- lX a];simp[List.getD,List.getElem?_eq_getElem u]
     rw[<- lX b];exact n.2 r d B z e
 |kG O k j s=>
   simp only[cH]at b;split at b
   . cases b
   . exact absurd (lX b).symm f
 |not k j s=>
   simp only[cH]at b;split at b
   . cases b
   . split at b
     . exact absurd (lX b).symm f
     . cases b
 |neg k j s=>
   obtain⟨p,rfl⟩:=tR.2.2 b;simp only[cU]at a
   cases hv:cU cols row j with
   |inr c=>rw[hv]at a;cases a
   |inl E=>
     rw[hv]at a;simp only[sD,unO,OU]at a;split at a
     . cases a;exact s l g p hv f
     . simp only[Ec,show¬((13:Nat)=14)from by decide,if_false]at a
       split at a
       . cases a;exact Gi (Pe _)
       . cases a
 |two i k j F x G=>
   obtain⟨C,N,p,K,e,L,v⟩:=za b;have m:=MA i l.1
   cases ha:pq i with
   |false=>rw[ha]at e;exact absurd e f
   |true=>
     rw[ha]at m e v;have I:fW i<=4:=m.2.1.mpr rfl;have o:lH i=false:=by
      cases o:lH i with
      |false=>rfl
      |true=>have:=m.2.2.mpr o;omega
     have M:C=0:=by
      rcases v with c|c
      . exact c
      . rw[o]at c;cases c
     subst e;simp only[cU]at a;rw[aE (by omega),aE (by omega)]at a
     cases hv:cU cols row j with
     |inr c=>rw[hv]at a;cases a
     |inl P=>
       cases hw:cU cols row F with
       |inr c=>rw[hv,hw]at a;cases a
       |inl E=>
         rw[hv,hw]at a;simp only[vI]at a;split at a
         . cases a;exact Pd _
         . unfold FP at a
           rw[aE (by omega)]at a;unfold Ec at a;split at a
           . cases a
             have A:=x l.2.1 g.1 p hv (by omega);exact Gi (afy A.1)
           . cases a
