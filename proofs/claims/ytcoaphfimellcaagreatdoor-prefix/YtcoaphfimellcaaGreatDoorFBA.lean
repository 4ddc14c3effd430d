import Derived.Test.YtcoaphfimellcaaGreatDoorFAJ
import Derived.Test.YtcoaphfimellcaaGreatDoorFAS
set_option maxHeartbeats 0
set_option maxRecDepth 100000
namespace Go.Proofs.YtcoaphfimellcaaGreatDoor
variable{w:Nat}{p:Int}
theorem OM{cols:List bu}{row:List aB}(c:zZ cols row):iy cols row:=by refine⟨c.1,λf b g d e k=>?_⟩;have a:=(S.zO (c:=wD b) (c.2 f b g d e).1 (c.2 f b g d e).2).2;rw[k]at a;obtain⟨i,l,m⟩:=b;cases i;{simp[wD]at a;obtain⟨rfl,j⟩:=a;rcases j with rfl|rfl;{exact .inr (.inl rfl)};exact .inr (.inr rfl)};simp[wD]at a;obtain⟨rfl,rfl⟩:=a;exact .inl rfl
theorem Bh{v:Bs}(k:OI v)(g:v.null=true\/v.kind=(w:Int)):Lq w ⟨v.null,v.n,v.s⟩:=by
 obtain⟨t,p,s,r,i⟩:=v;rcases k with⟨d,e,a⟩|⟨d,e⟩;{simp only at d e a;subst d e a;exact⟨by unfold S.cR;simp,by unfold S.okB wD;simp⟩}
 simp only at d e g;subst d;have g:p=(w:Int):=by simpa using g
 subst g;rcases e with⟨a,b,f⟩|⟨a,b,f,l⟩|⟨a,b,f⟩
 {subst f;exact⟨b,by unfold S.okB wD;simp[a]⟩}
 .subst b
  refine⟨by unfold S.cR;simp,?_⟩;have o:i.data.toList.all S.EY=true:=eV.mpr (λj m=>by
   have:=l j m;unfold fX at this;unfold S.EY;simp at this ⊢;omega)
  have n:S.FU i=true:=by unfold S.FU;rw[o];simp[f]
  show(if false=true then _ else if(w:Int)=0 then _ else if(w:Int)=1 then decide ((0:Int)=0)&&S.FU i else _)=true;rw[aE (by simp),aE (by omega),aF a,n];rfl
 subst f;refine⟨by rcases b with c|c<;>(rw[c];unfold S.cR;simp),?_⟩;unfold S.okB wD;rcases b with c|c<;>simp[a,c]
theorem Hv(a:cR p):Lq 0 (pY p):=Bh (v:=⟨0,0,false,p,ByteArray.empty⟩) (.inr ⟨rfl,.inl ⟨rfl,a,rfl⟩⟩) (.inr rfl)
theorem Rr(a:Nat):Lq a gp:=Bh (v:=⟨0,0,true,0,ByteArray.empty⟩) (.inl ⟨rfl,rfl,rfl⟩) (.inl rfl)
theorem adQ{a:aB}(b:rI a):Lq 2 a:=by rcases b with rfl|rfl|rfl;{exact Rr 2};{exact Bh (v:=⟨0,2,false,0,ByteArray.empty⟩) (.inr ⟨rfl,.inr (.inr ⟨rfl,.inl rfl,rfl⟩)⟩) (.inr rfl)};exact Bh (v:=⟨0,2,false,1,ByteArray.empty⟩) (.inr ⟨rfl,.inr (.inr ⟨rfl,.inr rfl,rfl⟩)⟩) (.inr rfl)
theorem Rt(a:Int):cR (Go.RowKit.wrap64 a):=by unfold Go.RowKit.wrap64 cR;omega
theorem adR(a:Int):cR (IntKind.i64.wrap a):=by rw[kq];unfold cR;omega
theorem ah1(a:Int)(d:cR p):cR (p.tmod a):=by
 have e:(p.tmod a).natAbs<=p.natAbs:=by rw[Int.natAbs_tmod];exact Nat.mod_le _ _
 unfold cR at *;rcases Int.lt_or_le p 0 with b|b
 {have c:=Int.tmod_nonneg (a:=-p) a (by omega);rw[Int.neg_tmod]at c;omega};have c:=Int.tmod_nonneg (a:=p) a b;omega
theorem ah2{a:Int}(b:cR p):cR (uU w p a).1:=by
 unfold uU Cc;repeat' split
 all_goals first|exact Rt _|exact adR _|exact ah1 _ b|(unfold cR;simp;done)
theorem adS{cols:List bu}{row:List aB}(n:zZ cols row)(c:Ex)(l:pI c)(g:Ao c)(b:cL cols c=.inl w){d:aB}(a:cU cols row c=.inl d):Lq w d:=by by_cases f:w=2;{subst f;exact adQ (oU (OM n) c l b a)};induction c generalizing d w with|num D=>(cases b;cases a;exact Hv (by unfold cR;have:D<=9223372036854775807:=g;omega))|str t=>cases b;cases a;exact Bh (v:=⟨0,1,false,0,t⟩) (.inr ⟨rfl,.inr (.inl ⟨rfl,rfl,g.1,g.2⟩)⟩) (.inr rfl)|junk=>(cases b;cases a;exact Hv (by unfold cR;decide))|bool H=>cases b;exact absurd rfl f|col t k=>(simp only[cL]at b;cases hf:cols.find? (λd=>jN d.1 t)with|none=>rw[hf]at b;cases b|some B=>rw[hf]at b;obtain⟨r,y,e⟩:=OB hf;simp only[cU,y]at a;have u:r<row.length:=(by rw[n.1];exact(aj.mp e).1);have z:row[r]?=some d:=(by rw[af u];rw[<- jt a];simp[List.getD,List.getElem?_eq_getElem u]);rw[<- jt b];exact n.2 r d B z e)|j8 O k j s=>simp only[cL]at b;split at b;{cases b};exact absurd (jt b).symm f|not k j s=>simp only[cL]at b;split at b;{cases b};split at b;{exact absurd (jt b).symm f};cases b|neg k j s=>(obtain⟨p,rfl⟩:=uX.2.2 b;simp only[cU]at a;cases hv:cU cols row j with|inr c=>rw[hv]at a;cases a|inl E=>rw[hv]at a;simp only[rG,Xu,Jv]at a;split at a;{cases a;exact s l g p hv f};simp only[CK,show¬((13:Nat)=14)from by decide,if_false]at a;split at a;{cases a;exact Hv (Rt _)};cases a)|two i k j F x G=>obtain⟨C,N,p,K,e,L,v⟩:=Ag b;have m:=OC i l.1;cases ha:pZ i with|false=>rw[ha]at e;exact absurd e f|true=>rw[ha]at m e v;have I:gN i<=4:=m.2.1.mpr rfl;have o:mh i=false:=(by cases o:mh i with|false=>rfl|true=>have:=m.2.2.mpr o;omega);have M:C=0:=(by rcases v with c|c;{exact c};rw[o]at c;cases c);subst e;simp only[cU]at a;rw[aE (by omega),aE (by omega)]at a;cases hv:cU cols row j with|inr c=>rw[hv]at a;cases a|inl P=>cases hw:cU cols row F with|inr c=>rw[hv,hw]at a;cases a|inl E=>rw[hv,hw]at a;simp only[uI]at a;split at a;{cases a;exact Rr _};unfold CN at a;rw[aE (by omega)]at a;unfold CK at a;split at a;{cases a;have A:=x l.2.1 g.1 p hv (by omega);exact Hv (ah2 A.1)};cases a
