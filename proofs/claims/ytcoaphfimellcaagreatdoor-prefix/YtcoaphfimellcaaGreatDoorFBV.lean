import Derived.Test.YtcoaphfimellcaaGreatDoorFBI
set_option maxHeartbeats 0
set_option maxRecDepth 100000
namespace Go.Proofs.YtcoaphfimellcaaGreatDoor
variable{w p:ByteArray}{m:Nat}
def c4:ByteArray:=bs [32,124,32,108,105,109,105,116]
theorem aje:dv c4 0=[⟨.sign me,1⟩,⟨.word dJ,3⟩]++[⟨.stop,c4.size⟩]:=by kernel_rfl
def tL(q D:ByteArray):ByteArray:=q++(c4++(bs [32]++D))
def akN(pl n:Nat):eZ:={ bare dJ pl with n:=n }
theorem ajf(b a:Nat):qv (akN b a)=(b,.kh a):=rfl
theorem Wu{q:ByteArray}{d:List eZ}(k:fg q=.inl (.query d))(g:dv w 0=[⟨.num m,0⟩,⟨.stop,w.size⟩])(l:¬300<(tL q w).size):∃o,fg (tL q w)=.inl (.query (d++[akN o m])):=by obtain⟨c,p,j⟩:=Kz k;have e:=td (X:=c4) (Y:=bs [32]++w) (Dd (by decide)) (by rw[yK (X:=bs [32]) (by decide)];decide) aje;have a:=td (X:=q) (Y:=c4++(bs [32]++w)) (Dd (by decide)) (by rw[yK (X:=c4) (by decide)];decide) p;rw[e,Gq,g]at a;simp only[List.map_append,List.map_cons,List.map_nil]at a;obtain⟨b,i,f,-⟩:=j (q.size+1) [⟨.word dJ,q.size+3⟩,Tok.up q.size (Tok.up c4.size (Tok.up 1 ⟨.num m,0⟩)),Tok.up q.size (Tok.up c4.size (Tok.up 1 ⟨.stop,w.size⟩))];obtain⟨b,rfl⟩:∃n,b=n+2:=⟨b - 2,by simp at i;omega⟩;refine⟨q.size+3,?_⟩;unfold fg;rw[aE l];unfold tL;rw[a,show c++([Tok.up q.size ⟨.sign me,1⟩,Tok.up q.size ⟨.word dJ,3⟩]++[Tok.up q.size (Tok.up c4.size (Tok.up 1 ⟨.num m,0⟩)),Tok.up q.size (Tok.up c4.size (Tok.up 1 ⟨.stop,w.size⟩))])=c++⟨.sign me,q.size+1⟩::[⟨.word dJ,q.size+3⟩,Tok.up q.size (Tok.up c4.size (Tok.up 1 ⟨.num m,0⟩)),Tok.up q.size (Tok.up c4.size (Tok.up 1 ⟨.stop,w.size⟩))]from rfl,f];rfl
theorem Nv{cols:List bu}{c b:Nat}:∀{a:List mK},gw cols (a++[(c,.kh b)])=gw cols a
 |[]=>rfl
 |s::l=>by
   simp only[List.cons_append,gw]
   cases lj cols s.2 with
   |inl e=>rfl
   |inr d=>exact Nv
theorem Pq{i g:Nat}:∀{f:List mK} {left:Int} {cols:List bu} {b:List (List aB)},(∀d,pL left cols b f=.inl d->pL left cols b (f++[(i,.kh g)])=.inl d)/\∀c e,pL left cols b f=.inr (c,e)->pL left cols b (f++[(i,.kh g)])=.inl (10,i)\/pL left cols b (f++[(i,.kh g)])=.inr (c,e.take g)
 |[],left,cols,b=>by
   refine⟨λd a=>(by cases a),λc e a=>?_⟩
   cases a
   simp only[List.nil_append,pL,oq,lj];split
   . exact .inl rfl
   . exact .inr rfl
 |s::l,left,cols,b=>by
   simp only[List.cons_append,pL]
   cases oq cols b s.2 with
   |inl q=>exact⟨λd a=>a,λc e a=>by cases a⟩
   |inr j=>
     simp only;split
     . exact⟨λd a=>a,λc e a=>by cases a⟩
     . cases lj cols s.2 with
       |inl d=>exact⟨λd a=>a,λc e a=>by cases a⟩
       |inr c=>exact Pq
theorem Wv{q:ByteArray}{bud:Nat}{st:qV}(r:Gn st)(t:p.size<=maxLen)(C:Ic q=true)(y:dv w 0=[⟨.num m,0⟩,⟨.stop,w.size⟩]) :
 (oE bud st p (tL q w)).2=st/\C6 (oE bud st p (tL q w)).1/\((oE bud st p (tL q w)).1.2.1=1\/((oE bud st p q).1.2.1≠0/\(oE bud st p (tL q w)).1=(oE bud st p q).1)\/
 ((oE bud st p q).1.2.1=0/\((oE bud st p (tL q w)).1.2.1=10\/∃d g,mS d/\fH d g/\(oE bud st p q).1.1=sU d g/\(oE bud st p (tL q w)).1=(sU d (g.take m),0,0)))):=by
 obtain⟨u,l,s,B,-,D,-,A⟩:=AG C;by_cases k:300<(tL q w).size;{unfold oE;rw[aF k];exact⟨rfl,.inl ⟨by simp,rfl,by simp,by simp⟩,.inl rfl⟩};obtain⟨I,j⟩:=Wu s y k;rw[eX]at j;have n:Ic (tL q w)=true:=by unfold Ic;rw[j]
 refine⟨Db n,Da r n t,.inr ?_⟩;rw[uw s A,uw j k];simp only[Bj,List.map_append,List.map_cons,List.map_nil,ajf,lM];cases hv:xk st p u.table.1 with|none=>(exact .inl ⟨by simp,rfl⟩)|some a=>simp only[Nv];by_cases c:(gw a.1 (l.map qv)).1≠0;{rw[aF c,aF c];exact .inl ⟨c,rfl⟩};rw[aE c,aE c];obtain⟨E,F,G,H⟩:=Kp r t B.1 hv;unfold ng;by_cases b:(bud:Int) - a.2.length<0;{rw[aF b,aF b];exact .inl ⟨by simp,rfl⟩};rw[aE b,aE b];cases e:pL ((bud:Int) - a.2.length) a.1 a.2 (l.map qv)with|inl o=>(rw[Pq.1 o e];have z:o.1≠0:=vT (bud:=bud) (pl:=u.pl) (cols:=a.1) (S:=a.2) (ss:=l.map qv) (by unfold ng;rw[aE b];exact e);exact .inl ⟨z,rfl⟩)|inr f=>obtain⟨v,-,x,-⟩:=Ia (Em D) F.few E G H e;refine .inr ⟨rfl,?_⟩;rcases Pq.2 f.1 f.2 e with i|i;{rw[i];exact .inl rfl};rw[i];exact .inr ⟨f.1,f.2,v,x,rfl,rfl⟩
