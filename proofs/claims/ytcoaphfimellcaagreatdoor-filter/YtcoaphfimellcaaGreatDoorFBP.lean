import Derived.Test.YtcoaphfimellcaaGreatDoorFBI
import Derived.Test.YtcoaphfimellcaaGreatDoorFAI
set_option maxHeartbeats 0
set_option maxRecDepth 100000
namespace Go.Proofs.YtcoaphfimellcaaGreatDoor
variable{w:Nat}
def oD:dm->Option aB
 |.inl c=>some c
 |.inr _=>none
theorem Pn{d e:aB->dm}{a b:dm}(f:oD a=oD b)(g:∀c,oD (d c)=oD (e c)):oD (rG d a)=oD (rG e b):=by
 cases a<;>cases b<;>simp only[oD,Option.some.injEq]at f<;>first|cases f|skip
 {exact g _};rfl
theorem afy(b c d:Nat)(a:aB):oD (Xu (Jv b c) a)=oD (Xu (Jv b d) a):=by unfold Xu Jv CK;repeat(first|rfl|split)
theorem anX{g i:aB->aB->dm}{a b c d:dm}(j:oD a=oD b)(k:oD c=oD d)(l:∀e f,oD (g e f)=oD (i e f)):oD (uI g a c)=oD (uI i b d):=by
 cases a<;>cases b<;>simp only[oD,Option.some.injEq]at j<;>first|cases j|skip
 {(cases c<;>cases d<;>simp only[oD,Option.some.injEq]at k<;>first|cases k|skip);{simp only[uI];split;{rfl};exact l _ _};rfl};rfl
theorem Nr{g:Bool}{a b c d:dm}(e:oD a=oD b)(f:oD c=oD d):oD (ib g a c)=oD (ib g b d):=by
 cases a<;>cases b<;>simp only[oD,Option.some.injEq]at e<;>first|cases e|skip
 {(cases c<;>cases d<;>simp only[oD,Option.some.injEq]at f<;>first|cases f|skip);{rfl};unfold ib;simp only;split<;>rfl};rfl
theorem anY(c d e:Nat)(a b:aB):oD (CN c d a b)=oD (CN c e a b):=by unfold CN CK;repeat(first|rfl|split)
theorem yL(cols:List bu)(row:List aB):∀d:Ex,oD (cU cols row d)=oD (cU cols row d.st)
 |.num _=>rfl
 |.str _=>rfl
 |.bool _=>rfl
 |.junk=>rfl
 |.col _ _=>rfl
 |.j8 _ _ a=>Pn (yL cols row a) (λ_=>rfl)
 |.not _ a=>Pn (yL cols row a) (afy _ _ _)
 |.neg _ a=>Pn (yL cols row a) (afy _ _ _)
 |.two f _ a e=>by
   have b:=yL cols row a;have c:=yL cols row e;simp only[cU,Ex.st];split
   . exact Nr b c
   . split
     . exact Nr b c
     . exact anX b c (anY _ _ _)
theorem ai5{a b:dm}(c:oD a=oD b):mQ a=mQ b:=by
 cases a<;>cases b<;>simp only[oD,Option.some.injEq]at c<;>first|cases c|skip
 all_goals rfl
theorem aa7{cols:List bu}{row:List aB}{a b:Ex}(c:a.st=b.st):oD (cU cols row a)=oD (cU cols row b):=by rw[yL,c,<- yL]
theorem ai6:gN AO=11:=by decide
theorem afz{c:aB}{b:dm}(f:rI c):mQ (ib false (.inl c) b)=(mQ (.inl c)&&mQ b):=by rcases f with rfl|rfl|rfl;{cases b with|inr e=>rfl|inl a=>show mQ (if Tt false (.inl a)=true then .inl a else .inl gp)=false;split;{rename_i d;simp only[Tt,Bool.and_eq_true,decide_eq_true_eq]at d;simp[mQ,d.2]};rfl};{rfl};cases b with|inr e=>rfl|inl a=>show mQ (if Tt false (.inl a)=true then .inl a else .inl a)=_;rw[ite_self];rfl
theorem Ym{g i:Type}{c:g->Nat ⊕ i}:∀{b:List g} {f:List i},dL c b=.inr f->∀d∈b,∃e,c d=.inr e
 |[],_,_,d,a=>by cases a
 |x::b,f,h,d,a=>by
   unfold dL at h
   cases hx:c x with
   |inl j=>rw[hx]at h;cases h
   |inr e=>
     rw[hx]at h
     cases hR:dL c b with
     |inl j=>simp only[hR]at h;cases h
     |inr k=>
       rcases bq.1 a with rfl|a
       . exact⟨e,hx⟩
       . exact Ym hR d a
theorem afA{g:Type}{b:g->dm}{c i:List g}(e:j6 b c=.inr i):∀a∈c,∃d,b a=.inl d:=λa j=>by
 unfold j6 at e
 cases hE:dL (λa=>qN (b a)) c with
 |inl k=>rw[hE]at e;cases e
 |inr m=>
   obtain⟨l,f⟩:=Ym hE a j
   cases hF:b a with
   |inl d=>exact⟨d,rfl⟩
   |inr k=>rw[hF]at f;cases f
theorem Yn{left:Int}{cols:List bu}{a:List (List aB)}:∀{b:List mK} {g:List mK} {x},pL left cols a (b++g)=.inr x->∃f e d,pL left cols a b=.inr (e,d)/\∀c,pL left cols a (b++c)=pL f e d c
 |[],_,_,_=>⟨left,cols,a,rfl,λ_=>rfl⟩
 |s::b,g,x,h=>by
   simp only[List.cons_append,pL]at h ⊢
   cases hw:oq cols a s.2 with
   |inl o=>rw[hw]at h;cases h
   |inr d=>
     rw[hw]at h;simp only at h ⊢;split at h
     . cases h
     . rename_i i
       rw[aE i]
       cases ho:lj cols s.2 with
       |inl n=>rw[ho]at h;cases h
       |inr e=>
         rw[ho]at h;obtain⟨f,k,j,l,m⟩:=Yn h;exact⟨f,k,j,l,λc=>by rw[aE i];exact m c⟩
theorem FD{left:Int}{cols:List bu}{d:List (List aB)}{i:Nat}{c:Ex}{f:List mK}{x}(a:pL left cols d ((w,.gK c i)::f)=.inr x):∃b g,j6 (λrow=>cU cols row c) d=.inr b/\cL cols c=.inl 2/\pL g cols b f=.inr x:=by simp only[pL,oq]at a;cases hw:j6 (λrow=>cU cols row c) d with|inl w=>rw[hw]at a;cases a|inr b=>rw[hw]at a;simp only at a;split at a;{cases a};simp only[lj]at a;split at a;{cases a};rename_i k e;split at e;{rename_i j;cases e;exact⟨b,_,rfl,(Hw j).1,a⟩};cases e
theorem KE{S:ByteArray}{q:Nat×Nat}(e:¬300<S.size)(d:yY (Mode.of (dv S 0)))(a:fg S=.inr q):q.1≠0/\q.1<=10/\q.2<=300:=by have f:=adK (S:=S) (by omega);obtain⟨g,b⟩:=F9 ((Mode.of (dv S 0)).take fB).name.2.len [{ bare fB (Mode.of (dv S 0)).place with table:=((Mode.of (dv S 0)).take fB).name.1 }] _ _ (f.take fB).name.2.2;unfold fg at a;rw[aE e,d.cmd]at a;simp only at a;split at a;{rename_i c;cases a;rw[c]at b;exact b};{cases a};rename_i c;cases a;rw[c]at b;exact⟨by simp,by simp,b.1.1.2⟩
section
variable {S user:ByteArray} {bud:Nat} {st:qV}
theorem Po{b:Bt}(c:yY (Mode.of (dv S 0)))(a:fg S=.inl b):Ic S=true:=by have:=(FC a).2;rw[c.cmd]at this;unfold Ic;rw[a,<- this]
theorem Ns(f:Gn st)(g:user.size<=maxLen)(a:yY (Mode.of (dv S 0))):C6 (oE bud st user S).1/\(oE bud st user S).2=st:=by by_cases b:300<S.size;{unfold oE;rw[aF b];exact⟨.inl ⟨by simp,rfl,by simp,by simp⟩,rfl⟩};cases hr:fg S with|inr q=>(obtain⟨c,d,e⟩:=KE b a hr;rw[Ej b hr];exact⟨.inl ⟨c,rfl,d,e⟩,rfl⟩)|inl i=>exact⟨Da f (Po a hr) g,Db (Po a hr)⟩
theorem akJ(d:yY (Mode.of (dv S 0)))(a:(oE bud st user S).1.2.1=0):∃c,fg S=.inl c/\¬300<S.size:=by by_cases b:300<S.size;{unfold oE at a;rw[aF b]at a;cases a};cases hr:fg S with|inr q=>rw[Ej b hr]at a;exact absurd a (KE b d hr).1|inl c=>exact⟨c,rfl,b⟩
end
theorem anZ(c b:Nat)(a:Ex):qv (whS c a b)=(c,.gK a b):=rfl
theorem afB{bud:Nat}{st:qV}{user:ByteArray}{e:Nm}{d:List mK}(a:(lM bud st user w e d).2.1=0):∃b c,xk st user e.1=some b/\pL ((bud:Int) - b.2.length) b.1 b.2 d=.inr c/\(lM bud st user w e d).1=sU c.1 c.2:=by unfold lM at a ⊢;cases hv:xk st user e.1 with|none=>rw[hv]at a;cases a|some b=>rw[hv]at a;simp only at a ⊢;split at a;{rename_i f;exact absurd a f};rename_i f;rw[aE f];cases hQ:ng bud w b.1 b.2 d with|inl g=>rw[hQ]at a;exact absurd a (vT hQ)|inr c=>unfold ng at hQ;split at hQ;{cases hQ};exact⟨b,c,rfl,hQ,rfl⟩
theorem Ta{q one two user:ByteArray}{bud:Nat}{st:qV}(g:Gn st)(i:user.size<=maxLen)(K:Ic q=true)(B:isE one)(C:isE two) :
 (C6 (oE bud st user (tA q one two)).1/\(oE bud st user (tA q one two)).2=st)/\(C6 (oE bud st user (tB q one two)).1/\(oE bud st user (tB q one two)).2=st)/\
 ((oE bud st user (tA q one two)).1.2.1=0->(oE bud st user (tB q one two)).1.2.1=0->(oE bud st user (tA q one two)).1.1=(oE bud st user (tB q one two)).1.1):=by obtain⟨ad,ac,L,H,-,N,-,-⟩:=AG K;obtain⟨e,e2,e3,T,p2,pa,o,f2,u,D,E,j,s⟩:=afx L B C;refine⟨Ns g i j,Ns g i s,λc d=>?_⟩;obtain⟨cA,b,W⟩:=akJ j c;obtain⟨cB,k,X⟩:=akJ s d;have z:=D _ b;have A:=E _ k;subst z A;rw[eX]at b k;obtain⟨s',r',n,-,-,v,-,-⟩:=AG (Po j b);rw[b]at n;cases n;have M:pI e:=((v (whS T e o) (by simp)).2.1 (e,o) (by simp[whS])).1;rw[uw b W]at c ⊢;rw[uw k X]at d ⊢;simp only[Bj,List.map_append,List.map_cons,List.map_nil,anZ]at c d ⊢;obtain⟨al,am,r,a,Y⟩:=afB c;obtain⟨v',an,l,f,Z⟩:=afB d;rw[r]at l;cases l;rw[Y,Z];obtain⟨O,P,Q,R⟩:=Kp g i H.1 r;obtain⟨ab,w,aa,I,G⟩:=Yn a;rw[G]at a f;obtain⟨-,-,F,-⟩:=Ia (Em N) P.few O Q R I;obtain⟨K1,l1,t,y,a⟩:=FD a;obtain⟨K2,l2,U,-,a⟩:=FD a;obtain⟨K3,l3,V,-,f⟩:=FD f;cases a;cases f;congr 1;rw[uq U,uq t,uq V,List.filter_filter];refine rr λrow p=>?_;obtain⟨c1,m⟩:=afA t row p;have x:=oU (OM (F row p)) e M y m;simp only[cU,ai6,if_true,m];rw[afz x,ai5 (aa7 (cols:=w) (row:=row) u),Bool.and_comm]
