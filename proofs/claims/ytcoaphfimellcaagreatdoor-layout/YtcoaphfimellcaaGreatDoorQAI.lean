import Derived.Test.YtcoaphfimellcaaGreatDoorQAH
set_option maxHeartbeats 0
set_option maxRecDepth 100000
namespace Go.Proofs.YtcoaphfimellcaaGreatDoor
open Go.RowKit
open _root_.Go.Proofs.Tryz
open Option renaming some→σ,none→ν
open Go.IntKind renaming i64→κ
open Go.Ending renaming returned→τ
open Go.Obj renaming cells→ξ
open Go renaming World→ω,Value→υ
open Go.RowKit renaming Below→δ
open Go.Value renaming int→ι,string→θ,slice→ψ,pointer→π,agg→χ
variable{x:υ}{v i t:Nat}{n:TypeId}{l:ω}
def Rdx(o:ω×Option Nat)(w':ω)(p d:Nat)(L:List It)(R:Ex×Mode)(r:Ending):Prop:=∃t v,r=τ (.iface t v)/\Pr o w' p d R.2 L/\(R.2.alive->.iface t v=oL R.1)
section
variable {o:ω×Option Nat} {w w':ω} {p d F:Nat} {m:Mode} {L:List It} {S:Mode->Ex×Mode} {sub:Option AK}
theorem af1(hw:m.tk.wf)(k:m.is dA=false):(aU m.tk=2->jJ sub m=(.col (cM m.tk) m.place,m.next))/\
 (aU m.tk≠2->oL (jJ sub m).1=Rm (ng (aU m.tk) (fR m.tk) (cM m.tk)).1 (ng (aU m.tk) (fR m.tk) (cM m.tk)).2.1 (ng (aU m.tk) (fR m.tk) (cM m.tk)).2.2.1/\(jJ sub m).2=cond (ng (aU m.tk) (fR m.tk) (cM m.tk)).2.2.2 m.next (m.wrong 2)):=by
 have f:m.is Cd=decide (aU m.tk=40):=eM (i:=19) hw rfl (by decide);have g:m.is wH=decide (aU m.tk=41):=eM (i:=20) hw rfl (by decide);unfold jJ Mode.is at *;rw[aE (by rw[k];decide)];obtain⟨b,a⟩:=nm (aU m.tk);rw[<- a]at f g ⊢;cases hk:m.tk<;>rw[hk]at a f g;case name t=>exact⟨λ_=>rfl,λc=>absurd a c⟩
 case num n=>exact⟨(λc=>by rw[c]at a;cases a),λ_=>by rw[a];exact⟨rfl,rfl⟩⟩
 case str n=>exact⟨(λc=>by rw[c]at a;cases a),λ_=>by rw[a];exact⟨rfl,rfl⟩⟩
 (case word s=>have e:¬b=3/\¬b=4/\¬b=2:=(by rw[a];simp only[aU];omega);refine⟨λc=>absurd c e.2.2,λ_=>?_⟩;simp only at f g;unfold ng;simp only[f,g,e,if_false];by_cases i:b=40;{simp[i,oL]};by_cases j:b=41;{simp[j,oL]};simp[i,j,oL]);all_goals
  have e:¬b=3/\¬b=4/\¬b=2/\¬b=40/\¬b=41:=by
   rw[hk]at hw;rw[a];first
    | (have l:wO fm _<16:=(aj.mp (F6 hw)).1
       simp only[aU];omega)
    | (simp only[aU];omega)
  refine⟨λc=>absurd c e.2.2.1,λ_=>?_⟩;unfold ng;simp[e,oL]
theorem atoms(r:∀{o w p m L},Pr o w p d m L->(m.alive->d<=8)->m.is dA=true->Calls prog 255 #[π (σ ⟨p,0,ν⟩)] w λb w'=>Rdx o w' p d L (jJ sub m) b):PX 254 d (jJ sub):=by
 intro o w p m L j I;obtain⟨q,C,fin⟩:=j.start;obtain⟨i,s⟩:∃i,decide (aU m.tk=11)=i:=⟨_,rfl⟩;have t:=IV j.wf;rw[s]at t;have x:=C.is1 11 i s;have a:=ak (af1 (sub:=sub) j.wf);have u:=λ{w'} (l:Pr (w,q) w' p d m [])=>r l I;have k:=Lf (aU m.tk) (fR m.tk) m.place (cM m.tk);generalize jJ sub m=A at a u ⊢;have v:=ak t;clear t s;cases i
 .replace a:=ak (a.J v.J);have y:=λ{w'} (l:Pr (w,q) w' p d m [])=>l.take;generalize aU m.tk=c at a k y;generalize ng c (fR m.tk) (cM m.tk)=R at k a;obtain⟨Y,E,G,D⟩:=R;rcases(show c=2\/c≠2 by omega)with f|f
  all_goals
   (try have H:((c:Int)==2)=true:=by rw[f];rfl);(try have H:((c:Int)==2)=false:=Eu f);first
    |replace a:=ak (a.J.1 f)
    |replace a:=ak (a.J.2 f)
   clear f;go_in;go_wp2_with fail;refine x.mono ?_;rintro b T ⟨rfl,n⟩;go_wp2_with fail;refine(y n).mono ?_;rintro b U ⟨rfl,g⟩;go_wp2_with fail
  {go_ret;rw[a.J];exact⟨_,_,rfl,fin [] (g.alloc _),λ_=>rfl⟩};refine(k _).mono ?_;rintro b Z ⟨rfl,r⟩;have e:=((g.new #[ι κ c,ι κ m.place,θ (cM m.tk),ι κ (fR m.tk)] 106).below r).new #[.bool false,ι κ E,θ G] 229;obtain⟨M,N,O,P⟩:=dm e.drop.box;cases D;(case' false=>go_wp2_with fail;refine(e.refuse _ _ _ _).mono ?_;rintro b w4 ⟨rfl,e⟩;rw[pM]at e;clear M N O P);all_goals obtain⟨V,W,X⟩:=wS e.box;go_wp2_with fail;go_ret;exact⟨_,_,rfl,a.J.2 ▸ fin [] e,λ_=>a.J.1.symm⟩
 go_in;go_wp2_with fail;refine x.mono ?_;rintro b T ⟨rfl,n⟩;go_wp2_with fail;refine(u n v.J).mono ?_;rintro b U ⟨K,Q,rfl,g,z⟩;have B:=ak z;clear z;go_wp2_with fail;go_ret;exact⟨K,Q,rfl,fin [] g,B.J⟩
theorem turns:(PX 254 d (jJ sub)->(∀{o w p m L},Pr o w p d m L->(m.alive->d<=8)->m.is p8=true->Calls prog 195 #[π (σ ⟨p,0,ν⟩),ι κ 13,.func (.func 251) #[π (σ ⟨p,0,ν⟩)] #[]] w λg w'=>Rdx o w' p d L (iE sub m) g)->PX 251 d (iE sub))/\
 (PX 196 d (oD sub)->(∀{o w p m L},Pr o w p d m L->(m.alive->d<=8)->m.is DC=true->Calls prog 195 #[π (σ ⟨p,0,ν⟩),ι κ 14,.func (.func 171) #[π (σ ⟨p,0,ν⟩)] #[]] w λg w'=>Rdx o w' p d L (iK sub m) g)->PX 171 d (iK sub)):=by
 refine⟨?_,?_⟩;all_goals
  intro B u o w p m L l k;obtain⟨q,s,fin⟩:=l.start;have hw:=l.wf;first
   | (obtain⟨a,b⟩:∃a,decide (aU m.tk=17)=a:=⟨_,rfl⟩
      have e:m.is p8=decide (aU m.tk=17):=kK (i:=12) hw rfl (by decide);have f:m.is p8=false->iE sub m=jJ sub m:=λc=>by unfold iE;rw[aE (by rw[c];decide)]
      rw[b]at e;have r:=s.is1 17 a b;have i:=λ{w'} (j:Pr (w,q) w' p d m []) (c:m.is p8=true)=>u j k c;generalize iE sub m=R at f i ⊢)
   | (obtain⟨a,b⟩:∃a,decide (aU m.tk=37)=a:=⟨_,rfl⟩
      have e:m.is DC=decide (aU m.tk=37):=eM (i:=16) hw rfl (by decide);have f:m.is DC=false->iK sub m=oD sub m:=λc=>by unfold iK;rw[aE (by rw[c];decide)]
      rw[b]at e;have r:=s.is1 37 a b;have i:=λ{w'} (j:Pr (w,q) w' p d m [])=>u j k;generalize iK sub m=R at f i ⊢)
  have n:=ak e;have y:=ak f;clear e f b;cases a;all_goals
   go_in;go_wp2_with fail;refine r.mono ?_;rintro g E ⟨rfl,t⟩;go_wp2_with fail;first
    | (refine(i t n.J).mono ?_)
    | (have A:=y.J n.J
       subst A;refine(B t k).mono ?_)
   rintro g G ⟨C,D,rfl,z,v⟩;have x:=ak v;clear v;go_wp2_with fail;go_ret;exact⟨C,D,rfl,fin [] z,x.J⟩
theorem tests(hl:yD sub)(H:PX 222 d (ji sub)):PX 196 d (oD sub):=by
 intro o w p m L Q G;obtain⟨q,U,fin⟩:=Q.start;obtain⟨a,l⟩:=nm (ji sub m);have c:Hid (oD sub m=match ll.find? (λo=>a.2.is o)with
  |some o=>(.two o a.2.place a.1 (ji sub a.2.next).1,(ji sub a.2.next).2)
  |none=>if a.2.is kIs then(.kG (a.2.next.is DC) a.2.place a.1,(if a.2.next.is DC then a.2.next.next else a.2.next).take uq)else a):=ak (by rw[l];rfl)
 have A:=H U G;have Y:a.2.alive->d<=8:=λt=>G ((gH.total hl).back (m:=m) (l ▸ t));rw[<- l]at A;generalize oD sub m=R at c ⊢;clear l;go_in;go_wp2_with fail;refine A.mono ?_;rintro g P ⟨N,O,rfl,j,D⟩;have r:=ak D;have n:=GU acv j.wf;have K:a.2.is kIs=decide (aU a.2.tk=38):=eM (i:=17) j.wf rfl (by decide);obtain⟨b,e⟩:∃b,decide (aU a.2.tk∈[8,5,9,6,10,7])=b:=⟨_,rfl⟩;have z:=(j.alloc (ξ #[ι κ 8,ι κ 5,ι κ 9,ι κ 6,ι κ 10,ι κ 7] 104)).Rl [8,5,9,6,10,7] P.heap.size 6 (IU P [8,5,9,6,10,7] _ (λaa Z=>match aa,Z with|0,_=>rfl|1,_=>rfl|2,_=>rfl|3,_=>rfl|4,_=>rfl|5,_=>rfl)) (by decide) (by simp) b e;have i:=ak K;clear D K;cases b;{have B:ll.find? (λo=>a.2.is o)=ν:=n.2 (by simpa using e);replace c:=c.J;rw[B]at c;replace c:=ak c;clear B n e;obtain⟨b,e⟩:∃b,decide (aU a.2.tk=38)=b:=⟨_,rfl⟩;have x:=ak e;clear e;cases b;(all_goals go_wp2_with fail;refine z.mono ?_;rintro g w2 ⟨rfl,k⟩;go_wp2_with fail;refine(k.GQ 38 _ x.J).mono ?_;rintro g w3 ⟨rfl,f⟩;replace i:=ak (i.J.trans x.J));{go_wp2_with fail;go_ret;have s:R=a:=c.J.trans (by simp only[i.J];rfl);rw[s];exact⟨N,O,rfl,fin [] f,r.J⟩};change Pr _ _ _ _ a.2.next _ at f;have v:=(k.goes i.J).1;have u:a.2.next.is DC=decide (aU a.2.next.tk=37):=eM (i:=16) f.wf rfl (by decide);obtain⟨b,e⟩:∃b,decide (aU a.2.next.tk=37)=b:=⟨_,rfl⟩;rw[e]at u;have X:=f.GQ 37 b e;have s:R=(.kG b a.2.place a.1,(cond b a.2.next.next a.2.next).take uq):=c.J.trans (by simp only[i.J,u,if_true];cases b<;>rfl);subst s;clear e u;go_wp2_with fail;refine X.mono ?_;rintro g w4 ⟨rfl,V⟩;go_wp2_with fail;refine(V.sign apb).mono ?_;rintro g w5 ⟨rfl,W⟩;go_wp2_with fail;go_ret;refine⟨_,_,rfl,fin [] W,λ_=>?_⟩;show _=Value.iface _ (χ #[oL a.1,_]);rw[<- r.J v]};obtain⟨op,y,M,C⟩:=n.1 (by simpa using e);have E:ll.find? (λo=>a.2.is o)=σ op:=y;replace c:=c.J;rw[E]at c;subst c;have v:=(j.goes C).1;have xQ:=ak M;clear n e y E M C;go_wp2_with fail;refine z.mono ?_;rintro g w2 ⟨rfl,k⟩;go_wp2_with fail;refine(k.Vj call222 H Y N O _ xQ.J).mono ?_;rintro g w3 ⟨t3,v3,rfl,f,I⟩;have T:=ak I;clear I;go_wp2_with fail;go_ret;refine⟨_,_,rfl,fin [] f,λt=>?_⟩;show _=Value.iface _ (χ #[_,_,oL a.1,oL _]);rw[<- r.J v,<- T.J t]
theorem MX(j:m.alive)(c:d<=8):(m.is dA=true->(mO (lvl (8 - (d+1))) (o7 d m)).2.take fG=(jJ (lvl (8 - d)) m).2/\((jJ (lvl (8 - d)) m).2.alive->oL (mO (lvl (8 - (d+1))) (o7 d m)).1=oL (jJ (lvl (8 - d)) m).1))/\
 (m.is p8=true->(iE (lvl (8 - (d+1))) (o7 d m)).2=(iE (lvl (8 - d)) m).2/\((iE (lvl (8 - d)) m).2.alive->oL (.neg m.place (iE (lvl (8 - (d+1))) (o7 d m)).1)=oL (iE (lvl (8 - d)) m).1))/\
 (m.is DC=true->(iK (lvl (8 - (d+1))) (o7 d m)).2=(iK (lvl (8 - d)) m).2/\((iK (lvl (8 - d)) m).2.alive->oL (.not m.place (iK (lvl (8 - (d+1))) (o7 d m)).1)=oL (iK (lvl (8 - d)) m).1)):=by
 by_cases g:d=8
 .subst g;have e:o7 8 m=.dead 3 m.place:=by cases m with
   |live n r=>rfl
   |dead k l=>exact absurd j (λc=>c)
  have f:m.wrong 3=.dead 3 m.place:=e;rw[e];refine⟨λa=>?_,λa=>?_,λa=>?_⟩;{unfold jJ;rw[aF a];exact⟨f.symm,λc=>absurd c (di _ _)⟩}
  .conv=>{ lhs;rhs;unfold iE }
   unfold iE;rw[aF a];exact⟨f.symm,λc=>absurd c (di _ _)⟩
  unfold iK;rw[aF a];exact⟨f.symm,λc=>absurd c (di _ _)⟩
 obtain⟨b,i⟩:∃b,8 - d=b+1:=⟨7 - d,by omega⟩;have e:o7 d m=m.next:=aE g;rw[show 8 - (d+1)=b by omega,i,e];refine⟨λa=>?_,λa=>?_,λa=>?_⟩;{unfold jJ;rw[aF a];exact⟨rfl,λ_=>rfl⟩};{rw[show iE (lvl (b+1)) m=(.neg m.place (iE (lvl b) m.next).1,(iE (lvl b) m.next).2)from aF a];exact⟨rfl,λ_=>rfl⟩};rw[show iK (lvl (b+1)) m=(.not m.place (iK (lvl b) m.next).1,(iK (lvl b) m.next).2)from aF a];exact⟨rfl,λ_=>rfl⟩
theorem levels:∀n d,d+n=9->PX 251 d (iE (lvl (8 - d)))/\PX 171 d (iK (lvl (8 - d)))/\PX 117 d (mO (lvl (8 - d))):=by
 intro n
 induction n with
 |zero=>
   intro d y;have c:=Bt (8 - d);have s:∀{m:Mode} {x:ByteArray} {u:Prop},(m.alive->d<=8)->m.is x=true->u:=λ{m x u} a b=>by
    cases m with
    |live r G=>have:=a trivial;omega
    |dead D E=>simp[Mode.is,Mode.tk]at b
   have k:PX 251 d (iE (lvl (8 - d))):=turns.1 (atoms (sub:=lvl (8 - d)) (λ_ a b=>s a b)) (λ_ a b=>s a b);have l:PX 171 d (iK (lvl (8 - d))):=turns.2 (tests c ((zy c).2.1 ((zy c).1 k))) (λ_ a b=>s a b);exact⟨k,l,(zy c).2.2.2 ((zy c).2.2.1 l)⟩
 |succ n C=>
   intro d y;have c:=Bt (8 - d);obtain⟨z,A,B⟩:=C (d+1) (by omega);have k:PX 251 d (iE (lvl (8 - d))):=turns.1 (atoms (sub:=lvl (8 - d)) (λg a b=>by
    have f:=(g.goes b).1;have e:=(MX f (a f)).1 b;refine(g.bracket B (a f)).mono ?_;rintro v w' ⟨r,t,rfl,S,j⟩;rw[e.1]at S;exact⟨r,t,rfl,S,λi=>(j (jb (e.1 ▸ i))).trans (e.2 i)⟩)) (λg a b=>by
    have f:=(g.goes b).1;have e:=(MX f (a f)).2.1 b;refine(g.nested call251 z (a f) 13).mono ?_;rintro v w' ⟨r,t,rfl,S,j⟩;rw[e.1]at S;exact⟨_,_,rfl,S,λi=>by rw[<- e.2 i,j (e.1 ▸ i)];rfl⟩)
   have l:PX 171 d (iK (lvl (8 - d))):=turns.2 (tests c ((zy c).2.1 ((zy c).1 k))) (λg a b=>by
    have f:=(g.goes b).1;have e:=(MX f (a f)).2.2 b;refine(g.nested call171 A (a f) 14).mono ?_;rintro v w' ⟨r,t,rfl,S,j⟩;rw[e.1]at S;exact⟨_,_,rfl,S,λi=>by rw[<- e.2 i,j (e.1 ▸ i)];rfl⟩)
   exact⟨k,l,(zy c).2.2.2 ((zy c).2.2.1 l)⟩
theorem Pr.formula(g:Pr o w p 0 m L):Calls prog 87 #[π (σ ⟨p,0,ν⟩)] w λe w'=>
 ∃a b,e=τ (χ #[ι κ m.place,.iface a b])/\Pr o w' p 0 (oT m).2 L/\((oT m).2.alive->.iface a b=oL (oT m).1.1):=by obtain⟨q,j,fin⟩:=g.start;have r:=λw=>(vF (aU m.tk) m.place (cM m.tk) (fR m.tk) w).2.1;go_in;go_wp2_with fail;refine(j.new #[ι κ 0,.nilIface] 185).next.mono ?_;rintro e s ⟨rfl,k⟩;go_wp2_with fail;refine((levels 9 0 rfl).2.2 k (λ_=>by omega)).mono ?_;rintro e t ⟨a,b,rfl,c,f⟩;have i:=ak f;obtain⟨l,n⟩:=eS c.box;have u:=c.fz;clear f;go_wp2_with fail;(try simp only[Exit.inBlock,Exit.then]);refine aB (v:=_) (by simp[results,results87,go_sem,l,n];rfl) rfl ?_;exact⟨a,b,rfl,fin [] (c.VZ _ _),i.J⟩
end
def mh(m:Mode):Mode:=m.name.2.take xO
def MY(m:Mode):Bool:=m.is kI||m.is Am||m.is Bj||m.is Cf
def pH(m:Mode):Mode:=(if MY (mh m)then(mh m).next else(mh m).wrong 2).take dA
def fnM(m:Mode):ByteArray:=match m.tk with
 |.word s=>s
 |.sign s=>s
 |_=>ByteArray.empty
theorem Ai(m:Mode):ku m=if(mh m).is kI&&(pH m).is fG then(⟨m.name.1,fnM (mh m),(mh m).place,(ByteArray.empty,0),true⟩,(pH m).take fG)
 else(⟨m.name.1,fnM (mh m),(mh m).place,(pH m).name.1,false⟩,(pH m).name.2.take fG):=rfl
theorem BW(m:Mode):(pH m).len<=(mh m).len:=by unfold pH;refine ag (take_len _ _) ?_;split;{exact dr};exact qV _ 2
theorem TF(m:Mode):(mh m).len<=m.len:=ag (take_len _ _) (dI m)
theorem Li(m:Mode):(ku m).2.len<=m.len:=by have a:=ag (BW m) (TF m);rw[Ai];split;{exact ag (take_len _ _) a};exact ag (take_len _ _) (ag (dI _) a)
theorem acw{m:Mode}(hw:m.tk.wf):MY m=decide (aU m.tk=45\/aU m.tk=46\/aU m.tk=47\/aU m.tk=48):=by unfold MY;rw[show m.is kI=decide (aU m.tk=45)from eM (i:=24) hw rfl (by decide),show m.is Am=decide (aU m.tk=46)from eM (i:=25) hw rfl (by decide),show m.is Bj=decide (aU m.tk=47)from eM (i:=26) hw rfl (by decide),show m.is Cf=decide (aU m.tk=48)from eM (i:=27) hw rfl (by decide)];by_cases a:aU m.tk=45;{simp[a]};by_cases b:aU m.tk=46;{simp[b]};by_cases c:aU m.tk=47;{simp[c]};by_cases e:aU m.tk=48;{simp[e]};simp[a,b,c,e]
def Vl(way:Nat)(m:Mode):Mode:=if way=45/\aU m.tk=12 then m else m.name.2
theorem acx{m:Mode}(g:(mh m).tk.wf)(e:(pH m).tk.wf):(Vl (aU (mh m).tk) (pH m)).take fG=(ku m).2:=by have f:(mh m).is kI=decide (aU (mh m).tk=45):=eM (i:=24) g rfl (by decide);rw[Ai,f,Ew e];unfold Vl;by_cases a:aU (mh m).tk=45;{by_cases b:aU (pH m).tk=12;{rw[aF ⟨a,b⟩,bK a,bK b];rfl};rw[aE (λc=>b c.2),bK a,aP b];rfl};rw[aE (λc=>a c.1),aP a];rfl
theorem PJ{m:Mode}(hw:m.tk.wf):m.is iB=decide (aU m.tk=15):=kK (i:=10) hw rfl (by decide)
def BX(m:Mode):List Nm×Mode:=match m.tk with
 |.name _=>jK m
 |_=>([],m)
def Vm(m:Mode):List Nm×Mode:=if aU m.tk=15 then([],m)else jK m
theorem af2{m:Mode}(hw:m.tk.wf):(Vm m).2.take iB=(BX m).2.take iB/\(((BX m).2.take iB).alive->(Vm m).1=(BX m).1):=by
 have l:=PJ hw;unfold Vm BX;have other:(¬∃b,m.tk=.name b)->¬aU m.tk=15->(jK m).2.take iB=m.take iB/\¬(m.take iB).alive:=(by intro n a;have r:m.name.2=m.wrong 2:=(by unfold Mode.name;split;{exact absurd ⟨_,‹m.tk=_›⟩ n};rfl);obtain⟨e,f,c⟩:=wT m 2;have i:(jK m).2=.dead e f:=V2 (by rw[r,c]);have j:m.take iB=.dead e f:=(by unfold Mode.take;rw[l,aP a,<- c];rfl);rw[i,j];exact⟨rfl,λg=>g⟩);by_cases a:aU m.tk=15
 .rw[aF a]
  cases hk:m.tk with
  |name b=>rw[hk]at a;simp[aU]at a
  |_=>exact⟨rfl,λ_=>rfl⟩
 rw[aE a]
 cases hk:m.tk with
 |name b=>exact⟨rfl,λ_=>rfl⟩
 |_=>
   obtain⟨t,u⟩:=other (by rw[hk];rintro⟨b,s⟩;cases s) a;exact⟨t,λk=>absurd k u⟩
def akJ(c:Nm×(Ex×Nat)):List υ:=[θ c.1.1,ι κ c.1.2,ι κ c.2.2,oL c.2.1]
def apd(l:List (Nm×(Ex×Nat))):List υ:=l.flatMap akJ
theorem Fm(m:Mode):(eL m).2.len<=m.len:=ag (NM _) (ag (take_len _ _) (dI m))
section
variable {o:ω×Option Nat} {w w':ω} {p d:Nat} {m:Mode} {L:List It}
theorem iEq(hw:m.tk.wf):m.is xO=decide (aU m.tk=8):=kK (i:=3) hw rfl (by decide)
theorem iOn(hw:m.tk.wf):m.is yr=decide (aU m.tk=25):=eM (i:=4) hw rfl (by decide)
theorem ape(hw:m.tk.wf):m.is Uj=decide (aU m.tk=28):=eM (i:=7) hw rfl (by decide)
theorem acy(p d:Nat):Tr 61 p d Mode.name Cm sh2:=⟨call61,dI,λo w m L a=>by
 refine a.name.mono ?_;rintro c w' ⟨rfl,S⟩;exact⟨_,rfl,⟨_,_,rfl⟩,S,λb=>by rw[<- (nL m).2 b];rfl⟩⟩
theorem Pr.names(i:Pr o w p d m L):Calls prog 86 #[π (σ ⟨p,0,ν⟩)] w λg w'=>
 ∃b a c e,g=τ (ψ b a c)/\Pr o w' p d (jK m).2 (.inr (ψ b a c,110,2,a,e)::L)/\((jK m).2.alive->e=(jK m).1.flatMap Cm):=by obtain⟨q,k,fin⟩:=i.start;go_in;go_wp2_with fail;refine(lists.1 _ _ rfl rfl k (acy p d)).mono ?_;rintro g n ⟨b,a,c,e,rfl,l,f⟩;have j:=ak f;clear f;go_wp2_with fail;go_ret;exact⟨b,a,c,e,rfl,fin [_] l,j.J⟩
theorem TG(p:Nat):Tr 148 p 0 eL akJ sh4:=⟨call148,Fm,λo w m L i=>by
 obtain⟨q,l,fin⟩:=i.start;go_in;go_wp2_with fail;refine(l.new #[θ ⟨#[]⟩,ι κ 0,ι κ 0,.nilIface] 288).name.mono ?_;rintro g u ⟨rfl,b⟩;go_wp2_with fail;refine((b.new #[θ (cM m.tk),ι κ m.place] 110).sign iEq).mono ?_;rintro g D ⟨rfl,c⟩;have k:=c.drew.formula;obtain⟨x,y⟩:=eS c.box;have v:¬(u.heap.size=w.heap.size):=by have:=b.at;omega
 go_wp2_with fail;go_region_with((with_reducible refine dQ k ?_);rintro g E ⟨z,C,rfl,a,f⟩;obtain⟨A,B⟩:=eS a.box;obtain⟨n,r,s,t⟩:=dm a.drop.box;have G:=a.drop.fz;have j:=ak f;clear f)
 all_goals
  (try go_wp2_with fail)
  (try simp only[Exit.inBlock,Exit.then])
  refine aB (v:=_) (by simp[results,results148,go_sem,n,r,s,t];rfl) rfl ?_;refine⟨_,rfl,⟨_,_,_,_,_,rfl⟩,fin [] (a.drop.aew _ _ _ _),λe=>?_⟩;show[_,_,_,_]=akJ (m.name.1,(oT (m.name.2.take xO)).1);rw[j.J e,<- (nL m).2 (jb (DS e))];rfl⟩
theorem Yg(p d:Nat):Tr 151 p d ek (λi=>Cm i.1) sh2:=⟨call151,uy,λo w m L f=>by
 obtain⟨q,g,fin⟩:=f.start;go_in;go_wp2_with fail;refine(g.new #[θ ⟨#[]⟩,ι κ 0] 110).name.mono ?_;rintro r s ⟨rfl,b⟩;have e:cond (decide (aU m.name.2.tk=28)) m.name.2.next m.name.2=(ek m).2:=by
  unfold ek;rw[ape b.wf]
  cases decide (aU m.name.2.tk=28)<;>rfl
 have c:=(b.new #[θ (cM m.tk),ι κ m.place] 110).GQ 28 _ rfl;rw[e]at c;have t:¬(s.heap.size=w.heap.size):=by have:=b.at;omega
 clear e;generalize decide (aU m.name.2.tk=28)=k at c;go_wp2_with fail;refine c.mono ?_;rintro r x ⟨rfl,a⟩;obtain⟨u,v⟩:=eS a.box;obtain⟨l,n⟩:=eS a.drop.box;have y:=a.drop.fz;go_wp2_with fail
 (try simp only[Exit.inBlock,Exit.then])
 refine aB (v:=_) (by simp[results,results151,go_sem,l,n];rfl) rfl ?_;refine⟨_,rfl,⟨_,_,rfl⟩,fin [] (a.drop.VZ _ _),λj=>?_⟩;show _=Cm m.name.1;rw[<- (nL m).2 (back (m:=m.name.2) (by unfold ek;simp only;split;exact dr;exact ae _) j)];rfl⟩
theorem Pr.join(b:Pr o w p d m L):Calls prog 149 #[π (σ ⟨p,0,ν⟩)] w λa w'=>
 a=τ (.tuple #[])/\Pr o w' p d ((m.name.2.take yr).name.2.take xO).name.2 L:=by obtain⟨q,c,fin⟩:=b.start;go_in;go_wp2_with fail;refine c.name.mono ?_;rintro a e ⟨rfl,S⟩;go_wp2_with fail;refine(S.sign iOn).mono ?_;rintro a f ⟨rfl,S⟩;go_wp2_with fail;refine S.name.mono ?_;rintro a g ⟨rfl,S⟩;go_wp2_with fail;refine(S.sign iEq).mono ?_;rintro a i ⟨rfl,S⟩;go_wp2_with fail;refine S.name.mono ?_;rintro a j ⟨rfl,S⟩;go_wp2_with fail;go_end0;exact⟨rfl,fin [] S⟩
end
theorem Yh(m:Mode):(ku m).1.name=m.name.1:=by rw[Ai];split<;>rfl
theorem Yi(m:Mode):(ku m).2.len<=(mh m).len:=by rw[Ai];split;{exact ag (take_len _ _) (BW m)};exact ag (take_len _ _) (ag (dI _) (BW m))
theorem acz(p d:Nat):Tr 172 p d ku (λK=>Cm K.name) sh2:=⟨call172,Li,λo w m L C=>by
 obtain⟨q,I,fin⟩:=C.start;go_in;go_wp2_with fail;refine(I.new #[θ ⟨#[]⟩,ι κ 0] 110).name.mono ?_;rintro f U ⟨rfl,t⟩;have fE:¬(U.heap.size=w.heap.size):=by have:=t.at;omega
 go_wp2_with fail;refine((t.new #[θ (cM m.tk),ι κ m.place] 110).sign iEq).mono ?_;rintro f w2 ⟨rfl,l⟩
 change Pr _ _ _ _ (mh m) _ at l;have g:=ak (acw l.wf);have s:=ak (λ(c:(pH m).tk.wf)=>acx l.wf c);have x:=l.take;generalize aU (mh m).tk=a at x g s;rcases(show a=45\/a=46\/a=47\/a=48\/(a≠45/\a≠46/\a≠47/\a≠48)by omega)with rfl|rfl|rfl|rfl|⟨c,z,A,B⟩
 all_goals
  (try
    have V:((a:Int)==45)=false:=Eu c;have W:((a:Int)==46)=false:=Eu z;have X:((a:Int)==47)=false:=Eu A;have Y:((a:Int)==48)=false:=Eu B;have Z:((a:Int) != 45)=true:=by rw[jA];omega
    have E:=ak c)
  first
   |replace g:=ak (g.J.trans (bK (by omega)))
   |replace g:=ak (g.J.trans (aP (by omega)))
  (try clear c z A B)
  go_wp2_with fail;refine x.mono ?_;rintro f w3 ⟨rfl,u⟩;go_wp2_with fail
  first
   | ((with_reducible refine dQ ((u.new _ _).refuse _ _ _ _) ?_)
      rintro f w4 ⟨rfl,v⟩;rw[pM]at v;go_wp2_with fail;refine(v.sign IV).mono ?_)
   |refine((u.new _ _).sign IV).mono ?_
  rintro f w5 ⟨rfl,b⟩;have y:∀n:Mode,n=(if MY (mh m)then(mh m).next else(mh m).wrong 2)->n.take dA=pH m:=λn c=>by rw[c];rfl
  rw[y _ (by rw[g.J];rfl)]at b;clear y;obtain⟨P,Q,R,T⟩:=dm b.box;have G:=ak (s.J b.wf);obtain⟨k,r⟩:∃k,decide (aU (pH m).tk=12)=k:=⟨_,rfl⟩;have H:=b.is1 12 k r;have D:Hid (∀a,Vl a (pH m)=if a=45/\k=true then pH m else(pH m).name.2):=ak λa=>by rw[<- r];unfold Vl;simp only[decide_eq_true_eq]
  clear r
  cases k
  all_goals
   go_wp2_with fail
   (try
     (with_reducible refine dQ H ?_)
     rintro f w6 ⟨rfl,b⟩;go_wp2_with fail)
   (try
     (with_reducible refine dQ b.name ?_)
     rintro f w7 ⟨rfl,b⟩;go_wp2_with fail)
   refine(b.sign Ew).mono ?_;rintro f w8 ⟨rfl,i⟩;have e:=G.J;rw[D.J]at e
   first
    |rw[aE (λj=>absurd j.1 (by decide))]at e
    |rw[aE (λj=>absurd j.1 E.J)]at e
    |rw[aE (λj=>absurd j.2 (by decide))]at e
    |rw[aF ⟨by trivial,by trivial⟩]at e
   rw[e]at i;clear e;obtain⟨n0,n1⟩:=eS i.drop.box;obtain⟨N,O⟩:=eS i.drop.drop.box;have aa:=i.drop.drop.fz;clear P Q R T;go_wp2_with fail
   (try simp only[Exit.inBlock,Exit.then])
   refine aB (v:=_) (by simp[results,results172,go_sem,N,O];rfl) rfl ?_;refine⟨_,rfl,⟨_,_,rfl⟩,fin [] (i.drop.drop.VZ _ _),λM=>?_⟩;show _=Cm (ku m).1.name;rw[Yh,<- (nL m).2 (jb (back (Yi m) M))];rfl⟩
section
variable {o:ω×Option Nat} {w w':ω} {p d:Nat} {m:Mode} {L:List It}
theorem Pr.group(e:Pr o w p d m L):Calls prog 150 #[π (σ ⟨p,0,ν⟩)] w λb w'=>
 b=τ (.tuple #[])/\Pr o w' p d (dc ku ((BX m).2.take iB)).2 L:=by obtain⟨q,i,fin⟩:=e.start;obtain⟨a,c⟩:∃a,decide (aU m.tk=15)=a:=⟨_,rfl⟩;have f:(cond a m (jK m).2).take iB=(BX m).2.take iB:=(by rw[<- (af2 e.wf).1,<- c];unfold Vm;by_cases j:aU m.tk=15<;>simp[j]);have g:=i.is1 15 a c;rw[<- f];clear c f;go_in;go_wp2_with fail;refine g.mono ?_;rintro b u ⟨rfl,S⟩;cases a;(case' false=>go_wp2_with fail;refine S.names.mono ?_;rintro b v ⟨n,k,s,z,rfl,S,-⟩;replace S:=S.drop);all_goals go_wp2_with fail;refine(S.sign PJ).mono ?_;rintro b x ⟨rfl,S⟩;go_wp2_with fail;refine(lists.1 _ _ rfl rfl S (acz p d)).mono ?_;rintro b y ⟨r,l,t,A,rfl,S,-⟩;go_wp2_with fail;go_end0;exact⟨rfl,fin [] S⟩
end
theorem Lj(m:Mode):(dp m).2.len<=m.len:=by unfold dp;split;{exact ag (NM _) dr};split;{exact ag (od Fm _) dr};split;{exact ag (dI _) (ag (take_len _ _) (ag (dI _) (ag (take_len _ _) (ag (dI _) dr))))};split;{refine ag (od Li _) (ag (take_len _ _) ?_);split;{exact ag (od dI _) dr};exact dr};split;{exact ag (od uy _) dr};simp only;split;{exact ag dr (take_len _ _)};exact ag (qV _ 2) (take_len _ _)
theorem akK{m:Mode}(hw:m.tk.wf):m.is QO=decide (aU m.tk=14):=kK (i:=9) hw rfl (by decide)
section
variable {m:Mode} (hw:m.tk.wf)
include hw
theorem sU:m.is kH=decide (aU m.tk=22):=eM (i:=1) hw rfl (by decide)
theorem IW:m.is r9=decide (aU m.tk=23):=eM (i:=2) hw rfl (by decide)
theorem IX:m.is xP=decide (aU m.tk=24):=eM (i:=3) hw rfl (by decide)
theorem Gm:m.is ti=decide (aU m.tk=26):=eM (i:=5) hw rfl (by decide)
theorem MZ:m.is uV=decide (aU m.tk=27):=eM (i:=6) hw rfl (by decide)
theorem M0:m.is ej=decide (aU m.tk=29):=eM (i:=8) hw rfl (by decide)
theorem PK(a:aU m.tk=22):dp m=({ bare kH m.place with exprs:=[(oT m.next).1] },(oT m.next).2):=by unfold dp;rw[sU hw,bK a];rfl
theorem Yj(a:aU m.tk=23):dp m=({ bare r9 m.place with names:=(dc eL m.next).1.map (·.1),exprs:=(dc eL m.next).1.map (·.2) },(dc eL m.next).2):=by unfold dp;rw[sU hw,IW hw,bK a,aP (by omega)];rfl
theorem TH(a:aU m.tk=24):(dp m).2=((m.next.name.2.take yr).name.2.take xO).name.2:=by unfold dp;rw[sU hw,IW hw,IX hw,bK a,aP (show¬aU m.tk=22 by omega),aP (show¬aU m.tk=23 by omega)];rfl
theorem PL(a:aU m.tk=26):(dp m).2=(dc ku ((BX m.next).2.take iB)).2:=by unfold dp;rw[sU hw,IW hw,IX hw,Gm hw,bK a,aP (show¬aU m.tk=22 by omega),aP (show¬aU m.tk=23 by omega),aP (show¬aU m.tk=24 by omega)];rfl
theorem PN(a:aU m.tk=27):(dp m).2=(dc ek m.next).2:=by unfold dp;rw[sU hw,IW hw,IX hw,Gm hw,MZ hw,bK a,aP (show¬aU m.tk=22 by omega),aP (show¬aU m.tk=23 by omega),aP (show¬aU m.tk=24 by omega),aP (show¬aU m.tk=26 by omega)];rfl
def Yk(m:Mode):gx×Mode:=match m.next.tk with
 |.num n=>({ bare ej m.place with n:=n },m.next.next)
 |_=>(bare ej m.place,m.next.wrong 2)
theorem PO(a:aU m.tk=29):dp m=Yk m:=by
 have b:m.take ej=m.next:=by unfold Mode.take;rw[M0 hw,bK a];rfl
 unfold dp;rw[sU hw,IW hw,IX hw,Gm hw,MZ hw,b,aP (show¬aU m.tk=22 by omega),aP (show¬aU m.tk=23 by omega),aP (show¬aU m.tk=24 by omega),aP (show¬aU m.tk=26 by omega),aP (show¬aU m.tk=27 by omega)];rfl
theorem TI(b:¬aU m.tk=22)(c:¬aU m.tk=23)(e:¬aU m.tk=24)(f:¬aU m.tk=26)(g:¬aU m.tk=27)(i:¬aU m.tk=29):(dp m).2=m.wrong 2:=by
 have j:m.take ej=m.wrong 2:=by unfold Mode.take;rw[M0 hw,aP i];rfl
 unfold dp;rw[sU hw,IW hw,IX hw,Gm hw,MZ hw,j,aP b,aP c,aP e,aP f,aP g];obtain⟨k,l,a⟩:=wT m 2;rw[a];rfl
end
theorem acA(m:Mode):(if aU m.next.tk=3 then m.next.next else m.next.wrong 2)=(Yk m).2/\((Yk m).2.alive->(Yk m).1={ bare ej m.place with n:=fR m.next.tk }):=by
 unfold Yk
 cases hk:m.next.tk with
 |num c=>exact⟨rfl,λ_=>rfl⟩
 |stop=>exact⟨rfl,λa=>absurd a (di _ 2)⟩
 |bad=>exact⟨rfl,λa=>absurd a (di _ 2)⟩
 |name b=>exact⟨rfl,λa=>absurd a (di _ 2)⟩
 |str b=>exact⟨rfl,λa=>absurd a (di _ 2)⟩
 |sign b=>exact⟨aE (by simp only[aU];omega),λa=>absurd a (di _ 2)⟩
 |word b=>exact⟨aE (by simp only[aU];omega),λa=>absurd a (di _ 2)⟩
theorem TJ{m:Mode}(hw:m.tk.wf)(c:¬aU m.tk=22)(e:¬aU m.tk=23)(f:¬aU m.tk=29):(dp m).2.alive->iZ (dp m).1.word kH=false/\iZ (dp m).1.word r9=false/\iZ (dp m).1.word ej=false:=by
 have g:m.take ej=m.wrong 2:=by unfold Mode.take;rw[M0 hw,aP f];rfl
 unfold dp;rw[sU hw,IW hw,g,aP c,aP e];obtain⟨i,j,b⟩:=wT m 2;rw[b]
 cases m.is xP with
 |true=>exactλ_=>⟨show iZ xP kH=false by decide,show iZ xP r9=false by decide,show iZ xP ej=false by decide⟩
 |false=>
   cases m.is ti with
   |true=>exactλ_=>⟨show iZ ti kH=false by decide,show iZ ti r9=false by decide,show iZ ti ej=false by decide⟩
   |false=>
     cases m.is uV with
     |true=>exactλ_=>⟨show iZ uV kH=false by decide,show iZ uV r9=false by decide,show iZ uV ej=false by decide⟩
     |false=>exactλa=>absurd a (λa=>a)
inductive M1 (w:ω) (base:Nat):υ->gx->Prop
 | acB (e:Ex) (pl q:Nat):M1 w base (.iface 261 (χ #[ι κ pl,oL e])) { bare kH q with exprs:=[(e,pl)] }
 | apf (v:υ) (rs:List (Nm×(Ex×Nat))) (q:Nat):w.ownsRow base 288 4 v rs.length (apd rs)->M1 w base (.iface 291 (χ #[v])) { bare r9 q with names:=rs.map (·.1),exprs:=rs.map (·.2) }
 | acC (n q:Nat):M1 w base (.iface 293 (χ #[ι κ n])) { bare ej q with n:=n }
 | acD (s:gx) (h:iZ s.word kH=false/\iZ s.word r9=false/\iZ s.word ej=false):M1 w base (.iface 295 (χ #[ι κ s.pl])) s
def TK(R:List It)(v:υ)(s:gx):Prop:=∀w base,(∀a∈R,GN base w a)->M1 w base v s
theorem TK.more{b c:List It}{e:gx}(g:TK b x e)(i:∀a∈b,a∈c):TK c x e:=λw f k=>g w f λa j=>k a (i a j)
theorem Yl{e:Type}{c:e->List υ}(f:∀b,(c b).length=v)(a:List e):(a.flatMap c).length=a.length*v:=by
 induction a with
 |nil=>simp
 |cons b a g=>rw[gQ,az,f,g,a7,qy];omega
section
variable {o:ω×Option Nat} {w w':ω} {p d:Nat} {m:Mode} {L:List It}
theorem q8{b:Type}{a:b->List υ}{l:List b}(e:w.ownsRow t n v x i (l.flatMap a))(f:∀c,(a c).length=v)(g:0<v):i=l.length:=by have:=e.1;rw[Yl f]at this;exact(Nat.eq_of_mul_eq_mul_right g this).symm
theorem Pr.act(D:Pr o w p 0 m.next L)(hw:m.tk.wf):Calls prog 118 #[π (σ ⟨p,0,ν⟩),χ #[ι κ (aU m.tk),ι κ m.place,θ (cM m.tk),ι κ (fR m.tk)]] w λf w'=>
 ∃l A s,f=τ (.iface l A)/\Pr o w' p 0 (dp m).2 (s++L)/\((dp m).2.alive->TK s (.iface l A) (dp m).1):=by
 obtain⟨q,G,fin⟩:=D.start;obtain⟨a,e⟩:=nm (aU m.tk);rw[<- e];have S:=G.new #[ι κ a,ι κ m.place,θ (cM m.tk),ι κ (fR m.tk)] 106;have Z:=λw=>(vF (aU m.next.tk) m.next.place (cM m.next.tk) (fR m.next.tk) w).2.2;have C:=lists.1 _ _ rfl rfl S (Yg p 0);have r:=S.must 3 _ rfl;have t:cond (decide (aU m.next.tk=3)) m.next.next (m.next.wrong 2)=(Yk m).2:=(by rw[<- (acA m).1];by_cases i:aU m.next.tk=3<;>simp[i]);rw[t]at r;clear t;rcases(show a=22\/a=23\/a=29\/a=24\/a=26\/a=27\/(¬a=22/\¬a=23/\¬a=24/\¬a=26/\¬a=27/\¬a=29)by omega)with rfl|rfl|rfl|rfl|rfl|rfl|⟨i,u,v,x,y,z⟩
 all_goals
  (try
    have T:((a:Int)==22)=false:=Eu i;have U:((a:Int)==23)=false:=Eu u;have V:((a:Int)==24)=false:=Eu v;have W:((a:Int)==26)=false:=Eu x;have X:((a:Int)==27)=false:=Eu y;have Y:((a:Int)==29)=false:=Eu z)
  first
   |have c:=ak (PK hw e.symm)
   |have c:=ak (Yj hw e.symm)
   |have c:=ak (PO hw e.symm)
   |have c:=ak (TH hw e.symm)
   |have c:=ak (PL hw e.symm)
   |have c:=ak (PN hw e.symm)
   |have c:=ak (TI hw (by omega) (by omega) (by omega) (by omega) (by omega) (by omega))
  (try have E:=ak (TJ hw (by omega) (by omega) (by omega)));(try clear i u v x y z);clear e;go_in;go_wp2_with fail
 {refine S.formula.mono ?_;rintro f B ⟨l,aa,rfl,b,j⟩;have k:=ak j;clear j;go_wp2_with fail;go_ret;rw[c.J];exact⟨_,_,[],rfl,fin [] b,λg _ _ _=>by rw[k.J g];exact .acB _ _ _⟩};{refine(lists.2.2.1 _ _ rfl rfl S (TG p)).mono ?_;rintro f B ⟨N,M,O,P,rfl,b,j⟩;have k:=ak j;clear j;go_wp2_with fail;go_ret;rw[c.J];refine⟨_,_,[_],rfl,fin [_] b,λg Q R i=>?_⟩;have I:=k.J g;subst I;have K:=q8 (l:=(dc eL m.next).1) b.row (λ_=>rfl) (by decide);exact .apf _ _ m.place (K ▸ i _ (.head _))};{refine r.mono ?_;rintro f B ⟨rfl,b⟩;go_wp2_with fail;go_ret;rw[c.J];exact⟨_,_,[],rfl,fin [] b,λg _ _ _=>by rw[(acA m).2 g];exact .acC _ _⟩};all_goals
  first
   | ((with_reducible refine dQ S.join ?_);rintro f n ⟨rfl,b⟩)
   | ((with_reducible refine dQ S.group ?_);rintro f n ⟨rfl,b⟩)
   | ((with_reducible refine dQ C ?_);rintro f n ⟨N,M,O,P,rfl,H,-⟩;have b:=H.drop)
   | ((with_reducible refine dQ (S.refuse _ _ _ _) ?_);rintro f n ⟨rfl,b⟩;rw[pM]at b)
  rw[<- c.J]at b;obtain⟨y0,y1,y2,y3⟩:=dm b.box;go_wp2_with fail;go_ret;exact⟨_,_,[],rfl,fin [] b,λg _ _ _=>by rw[<- Im m];exact .acD _ (E.J g)⟩
theorem Pr.stage(k:Pr o w p 0 m L):Calls prog 89 #[π (σ ⟨p,0,ν⟩)] w λj w'=>
 ∃e f a,j=τ (χ #[ι κ m.place,.iface e f])/\Pr o w' p 0 (dp m).2 (a++L)/\((dp m).2.alive->TK a (.iface e f) (dp m).1):=by
 obtain⟨q,v,fin⟩:=k.start;go_in;go_wp2_with fail;refine(v.new #[ι κ 0,.nilIface] 193).take.mono ?_;rintro j g ⟨rfl,l⟩;obtain⟨r,c⟩:=nm (g.alloc (ξ #[ι κ (aU m.tk),ι κ m.place,θ (cM m.tk),ι κ (fR m.tk)] 106 (0,0)));have n:Pr (w,q) r.drew p 0 m.next [.inl (g.heap.size,#[ι κ (aU m.tk),ι κ m.place,θ (cM m.tk),ι κ (fR m.tk)],106),.inl (w.heap.size,#[ι κ 0,.nilIface],193)]:=by rw[c];exact(l.new _ _).drew
 have u:=n.act k.wf;obtain⟨B,C,D,E⟩:=dm (show r.heap[g.heap.size]?=_ from n.box);have A:¬(g.heap.size=w.heap.size):=by have:=l.at;omega
 go_wp2_with fail;have z:=ak c;rw[<- c];clear c;go_region_with((with_reducible refine dQ u ?_);rintro j M ⟨e,f,a,rfl,b,s⟩;replace b:=b.perm oC;obtain⟨G,H,I,K⟩:=dm b.box;have i:=b.drop.perm oC;obtain⟨x,y⟩:=eS i.box;have N:=i.fz;have t:=ak s;clear s);all_goals (try go_wp2_with fail);(try simp only[Exit.inBlock,Exit.then]);refine aB (v:=_) (by simp[results,results89,go_sem,x,y];rfl) rfl ?_;exact⟨e,f,a,rfl,fin a ((i.VZ _ _).perm oC.symm),t.J⟩
end
theorem Tryz.TL:(prog.info? 193).map (λa=>(a.zero,a.size,a.bytes))=σ (σ (χ #[ι κ 0,.nilIface]),2,24):=by kernel_rfl
theorem Tryz.PR:(prog.info? 174).map (λa=>(a.zero,a.size,a.bytes))=σ (σ (χ #[ι κ 0,ψ ν 0 0]),2,32):=by kernel_rfl
section
variable {o:ω×Option Nat} {w w':ω} {p d:Nat} {m:Mode} {L:List It}
theorem Pr.lies{a:TypeId}{bytes:Nat}{A:Option Addr}{y:List υ}{b:Array υ}(S:Pr o w p d m (.inr (ψ A i t,a,v,i,y)::L))
 {Y:Array Oper} {e:Oper} {c:Act} {z:Act->ω->Prop} {C:Exit->Act->ω->Prop} {B:Prop} (M:e.guard=ν) (s u:Operand) (l:e.op=.call { callee:=.builtin .append,args:=#[s,u],argTypes:=#[n,n] })
 (P:prog.underlying n=σ (.slice a)) (H:(prog.info? a).map (λr=>(r.zero,r.size,r.bytes))=σ (σ x,v,bytes)) (T:x.cells.size=v) (R:0<v) (k:bytes<=1000) (hn:i<=1000)
 (O:c.eval s=ψ A i t) (Q:c.eval u=ψ (σ ⟨w.heap.size,0,ν⟩) 1 1) (I:b.size=v) (G:∀Z∈b.toList,Z.oneCell'=true)
 (E:∀g f w',Pr o w' p d m (.inr (ψ (σ ⟨g,0,ν⟩) (i+1) f,a,v,i+1,y++b.toList)::L)->z (c.put e.dst (ψ (σ ⟨g,0,ν⟩) (i+1) f)) w'):if Region.wanted e (yielded Y c.tmps)=true then Oper.wp prog e c (w.alloc (ξ b a)) z C else B:=by obtain⟨U,N,W,X,V⟩:=iC H;have j:=S.alloc (ξ b a);refine step_append_lies _ M s u n l o.1.heap.size a U x v bytes P N W X V T R _ i y O j.row ⟨w.heap.size,0,ν⟩ 1 1 b.toList Q (by simpa using I) (World.news_of_block (au w (ξ b a))) G (by decide) (by unfold maxLen;omega) ?_ j.fr.size _ rfl ?_;{have:(i+1)*bytes<=1001*1000:=lj (by omega) k;omega};intro g f w' l K k _;exact E g f w' (j.app l K (k.imp id (λD=>Nat.le_of_eq D.symm)))
theorem Pr.query(Q:Pr o w p 0 m L)(z:Nat)(f:gx):Calls prog 65 #[π (σ ⟨p,0,ν⟩),ι κ z] w λt w'=>
 ∃i b j g e c,t=τ (.iface 113 (χ #[ι κ z,θ (cM m.tk),ι κ m.place,ψ i b j]))/\Pr o w' p 0 (gN m.name.2.len [f] m.name.2).2 (.inr (ψ i b j,193,2,b,tE g)::(c++L))/\
   (gN m.name.2.len [f] m.name.2).1=f::e/\((gN m.name.2.len [f] m.name.2).2.alive->Each (λl n=>l.1=n.pl/\TK c l.2 n) g e):=by
 obtain⟨q,H,fin⟩:=Q.start;have KM:=H.akt;have Kr:=dI m;go_in;go_wp2_with fail;refine H.name.mono ?_;rintro t w1 ⟨rfl,V⟩;have W:=(V.nil 193 2).new #[ι κ z,θ (cM m.tk),ι κ m.place,ψ ν 0 0] 113;go_wp2_with fail;go_loopw[] (λwr=>∃(a:Mode) (i:Option Addr) (b j:Nat) (g:List (Nat×υ)) (e:List gx) (c:List It) (s:Nat),Pr (w,q) wr p 0 a (.inl (w1.heap.size,#[ι κ z,θ (cM m.tk),ι κ m.place,ψ i b j],113)::.inr (ψ i b j,193,2,b,tE g)::c)/\b+a.len<=400/\a.len<=s/\Hid (gN s (f::e) a=gN m.name.2.len [f] m.name.2)/\Hid (a.alive->Each (λl n=>l.1=n.pl/\TK c l.2 n) g e)) (λwr=>Lh wr p);case atStart=>exact⟨_,_,0,_,[],[],[],_,W,by omega,ae _,ak rfl,ak λ_=>trivial⟩
 case round=>
  obtain⟨a,i,b,j,g,e,c,s,u,hn,hf,E,G⟩:=hrel;have B:=akK u.wf;have T:=ak u.left;obtain⟨y,C⟩:∃y,decide (aU a.tk=14)=y:=⟨_,rfl⟩;rw[C]at B;have I:=u.GQ 14 y C;have A:=ak B;clear C B;cases y;{go_wp2_with fail;refine I.mono ?_;rintro t w2 ⟨rfl,k⟩;obtain⟨c0,c1,c2,Y⟩:=dm k.box;go_wp2_with fail;go_ret;have aa:=(yz A.J).symm.trans E.J;rw[<- aa];exact⟨i,b,j,g,e,c,rfl,@fin _ _ _ (.inr _::c) [] (by simpa using k.drop),rfl,G.J⟩}
  obtain⟨qK,ad⟩:=u.goes A.J;obtain⟨x,rfl⟩:∃x,s=x+1:=⟨s - 1,by omega⟩;have uA:=ak (show gN x (f::(e++[(dp a.next).1])) (dp a.next).2=gN m.name.2.len [f] m.name.2 from EK E.J A.J);have al:=Lj a.next;have X:=ak (Im a.next);go_wp2_with fail;refine I.mono ?_;rintro t w2 ⟨rfl,k⟩
  change Pr _ _ _ _ a.next _ at k;have P:=k.drew.stage;have Y:=(dm k.box).2.2.2;go_wp2_with fail;go_region_law(first
   | (refine ie rfl 89 _ _ rfl call89 #[π (σ ⟨p,0,ν⟩)] (by first|(simp[Act.eval];done)|(simp[Act.eval,Act.put];done)|rfl) _ P ?_;rintro t w4 ⟨N,O,U,rfl,r,K⟩;refine⟨_,rfl,?_⟩;replace r:=((r.perm oC).perm (oC.cons _)).perm (.swap _ _ _);have u3:=(dm r.drop.box).2.2.2;have u4:=(dm (r.alloc (ξ #[ι κ a.next.place,.iface N O] 193)).drop.box).2.2.2;have R:=ak K;clear K)
   | (refine r.lies rfl _ _ rfl underlying111 Tryz.TL rfl (by decide) (by decide) (by omega) (by simp[Act.eval]) (by simp[Act.eval]) rfl (by simp[Value.oneCell'];done) ?_;intro ab Z w5 v;have k3:=(dm v.drop.box).2.2.2;have kf:=v.drop.fz 3))
  all_goals (try go_wp2_with fail);go_roundw;(case rel=>refine⟨_,σ ⟨ab,0,ν⟩,b+1,Z,g++[(a.next.place,.iface N O)],e++[(dp a.next).1],U++c,x,?_,by omega,by omega,uA,ak λha=>?_⟩;{rw[GX];exact(v.perm (.swap _ _ _)).put 3 _};exact((G.J qK).mono (λl _ n M=>⟨M.1,M.2.more λac D=>List.mem_append_right _ D⟩)).snoc ⟨X.J.symm,(R.J ha).more λac D=>eF _ D⟩);case measure=>rw[((v.perm (.swap _ _ _)).put 3 _).left,T.J];omega
end
def apg(w:ω)(base:Nat)(v:υ)(r:uU):Prop:=w.ownsRow base 250 5 v r.vals.length (BU (r.vals.map su))
def akL(R:List It)(v:υ)(r:uU):Prop:=∀w base,(∀a∈R,GN base w a)->apg w base v r
section
variable {o:ω×Option Nat} {w w':ω} {p d:Nat} {m:Mode} {L:List It}
theorem Pr.aph(k:Pr o w p 0 m L):Calls prog 84 #[π (σ ⟨p,0,ν⟩)] w λc w'=>
 ∃e b f i,c=τ (χ #[ι κ m.place,ψ e b f])/\Pr o w' p 0 (j6 m).2 (i::L)/\((j6 m).2.alive->akL [i] (ψ e b f) (j6 m).1):=by obtain⟨q,n,fin⟩:=k.start;have B:=λw=>(vF (aU m.tk) m.place (cM m.tk) (fR m.tk) w).2.1;go_in;go_wp2_with fail;refine((n.new #[ι κ 0,ψ ν 0 0] 174).sign IV).mono ?_;rintro c C ⟨rfl,r⟩;go_wp2_with fail;refine(lists.2.2.2 _ _ rfl rfl r (XT p 0)).mono ?_;rintro c D ⟨e,b,f,G,rfl,j,g⟩;rw[Ts]at j g;have l:=ak g;clear g;go_wp2_with fail;refine(j.sign Ew).mono ?_;rintro c E ⟨rfl,a⟩;replace a:=a.perm (.swap _ _ _);obtain⟨x,y⟩:=eS a.box;have H:=a.fz;go_wp2_with fail;(try simp only[Exit.inBlock,Exit.then]);refine aB (v:=_) (by simp[results,results84,go_sem,x,y];rfl) rfl ?_;refine⟨e,b,f,_,rfl,fin [_] ((a.VZ _ _).perm (.swap _ _ _)),λu z A t=>?_⟩;have s:=l.J (jb u);subst s;have v:b=(dc jk (m.take dA)).1.length:=(q8 a.drop.row (λ_=>rfl) (by decide)).trans (by simp);subst v;exact t _ (.head _)
theorem Pr.load(R:Pr o w p 0 m L):Calls prog 62 #[π (σ ⟨p,0,ν⟩)] w λb w'=>
 ∃g c i f e,b=τ (.iface 179 (χ #[θ (cM m.tk),ι κ m.place,ψ g c i]))/\Pr o w' p 0 (mC (j6 m.name.2).2.len [(j6 m.name.2).1] (j6 m.name.2).2).2 (.inr (ψ g c i,174,2,c,tE f)::(e++L))/\
   ((mC (j6 m.name.2).2.len [(j6 m.name.2).1] (j6 m.name.2).2).2.alive->Each (λj b=>j.1=b.pl/\akL e j.2 b) f (mC (j6 m.name.2).2.len [(j6 m.name.2).1] (j6 m.name.2).2).1):=by
 obtain⟨q,K,fin⟩:=R.start;have KM:=K.akt;generalize hR:mC (j6 m.name.2).2.len [(j6 m.name.2).1] (j6 m.name.2).2=RR;have W:=ak hR;clear hR;have Kr:=ag (yx m.name.2) (ag (take_len _ _) (dI m));go_in;go_wp2_with fail;refine K.name.mono ?_;rintro b w1 ⟨rfl,Z⟩;go_wp2_with fail;refine(Z.new #[θ (cM m.tk),ι κ m.place] 110).aph.mono ?_;rintro b w2 ⟨al,n0,an,X,rfl,S2,N⟩;have T:=ak N;clear N;go_wp2_with fail;go_loopw[4] (λad wr=>∃(a:Mode) (g:Option Addr) (c i:Nat) (f:List (Nat×υ)) (t:List uU) (e:List It) (k:Nat),ad=ψ g c i/\Pr (w,q) wr p 0 a (.inl (w1.heap.size,#[θ (cM m.tk),ι κ m.place],110)::.inr (ψ g c i,174,2,c,tE f)::e)/\c+a.len<=401/\a.len<=k/\Hid (mC k t a=RR)/\Hid (a.alive->Each (λj b=>j.1=b.pl/\akL e j.2 b) f t)) (λ_ wr=>Lh wr p);case atStart=>exact⟨_,_,1,_,[(m.name.2.place,ψ al n0 an)],_,[X],_,rfl,(((S2.new _ _).one (z:=2) rfl).perm (List.Perm.cons _ (.swap _ _ _))).perm (.swap _ _ _),by omega,ae _,W,ak λA=>⟨⟨rfl,T.J A⟩,trivial⟩⟩
 case round=>obtain⟨a,g,c,i,f,t,e,k,rfl,n,hn,hf,G,H⟩:=hrel;have C:=IV n.wf;have V:=ak n.left;obtain⟨s,B⟩:∃s,decide (aU a.tk=11)=s:=⟨_,rfl⟩;rw[B]at C;have I:=n.is1 11 s B;have l:=ak C;clear B C;cases s;{go_wp2_with fail;refine I.mono ?_;rintro b w3 ⟨rfl,r⟩;obtain⟨c0,c1⟩:=eS r.box;go_wp2_with fail;go_ret;have ab:=(Ko l.J).symm.trans G.J;rw[<- ab];exact⟨g,c,i,f,e,rfl,@fin _ _ _ (.inr _::e) [] (by simpa using r.drop),H.J⟩};obtain⟨qK,ap⟩:=n.goes l.J;obtain⟨y,rfl⟩:∃y,k=y+1:=⟨k - 1,by omega⟩;have uA:=ak (Kn G.J l.J);have Q:=yx a;rw[show a.take dA=a.next by unfold Mode.take;rw[aF l.J]]at Q;go_wp2_with fail;refine I.mono ?_;rintro b w3 ⟨rfl,r⟩;go_wp2_with fail;refine r.aph.mono ?_;rintro b w4 ⟨am,n4,ao,Y,rfl,u,O⟩;have U:=ak O;replace u:=((u.perm (.swap _ _ _)).perm (List.Perm.cons _ (.swap _ _ _))).perm (.swap _ _ _);clear O;go_wp2_with(at_builtin;refine u.append rfl _ _ rfl underlying176 Tryz.PR rfl (by decide) (by decide) (by omega) rfl rfl rfl (by simp[Value.oneCell'];done) ?_;intro ac aa w5 M);go_wp2_with fail;go_roundw;(case rel=>refine⟨_,σ ⟨ac,0,ν⟩,c+1,aa,f++[(a.place,ψ am n4 ao)],t++[(j6 a).1],Y::e,y,rfl,?_,by omega,by omega,uA,ak λA=>?_⟩;{rw[GX];exact M.perm (.swap _ _ _)};exact((H.J qK).mono (λj _ aq P=>⟨P.1,λv x z=>P.2 v x λE D=>z E (.tail _ D)⟩)).snoc ⟨rfl,λv x z=>U.J A v x λE D=>z E (by rw[bj.mp D];exact .head _)⟩);case measure=>rw[M.left,V.J];omega
theorem Pr.create(j:Pr o w p d m L):Calls prog 60 #[π (σ ⟨p,0,ν⟩)] w λb w'=>
 ∃c a e f,b=τ (.iface 171 (χ #[θ (cM m.tk),ι κ m.place,ψ c a e]))/\Pr o w' p d ((dc tj (m.name.2.take dA)).2.take fG) (.inr (ψ c a e,168,3,a,f)::L)/\
   (((dc tj (m.name.2.take dA)).2.take fG).alive->f=Vf (dc tj (m.name.2.take dA)).1):=by obtain⟨q,l,fin⟩:=j.start;go_in;go_wp2_with fail;refine l.name.mono ?_;rintro b x ⟨rfl,n⟩;go_wp2_with fail;refine((n.new #[θ (cM m.tk),ι κ m.place] 110).sign IV).mono ?_;rintro b y ⟨rfl,r⟩;go_wp2_with fail;refine(lists.2.1 _ _ rfl rfl r (IJ p d)).mono ?_;rintro b z ⟨c,a,e,f,rfl,s,i⟩;have k:=ak i;clear i;go_wp2_with fail;refine(s.sign Ew).mono ?_;rintro b A ⟨rfl,g⟩;obtain⟨u,v⟩:=eS g.drop.box;go_wp2_with fail;go_ret;exact⟨c,a,e,f,rfl,fin [_] g,λt=>k.J (jb t)⟩
def PS(m:Mode):Mode:=m.name.2.take yr
def grC(m:Mode):Mode:=(PS m).name.2.take dA
def grE(m:Mode):Mode:=((jK (grC m)).2.take fG).take kH
theorem Pr.vB(t:Pr o w p 0 m L):Calls prog 63 #[π (σ ⟨p,0,ν⟩)] w λa w'=>
 ∃i c j k f g,a=τ (.iface 188 (χ #[θ (cM m.tk),ι κ m.place,θ (cM (PS m).tk),ι κ (PS m).place,ψ i c j,ι κ (grE m).place,.iface f g]))/\Pr o w' p 0 (oT (grE m)).2 (.inr (ψ i c j,110,2,c,k)::L)/\
   ((oT (grE m)).2.alive->k=DK (jK (grC m)).1/\.iface f g=oL (oT (grE m)).1.1):=by obtain⟨q,y,fin⟩:=t.start;go_in;go_wp2_with fail;refine y.name.mono ?_;rintro a O ⟨rfl,z⟩;go_wp2_with fail;refine((z.new #[θ (cM m.tk),ι κ m.place] 110).sign iOn).mono ?_;rintro a P ⟨rfl,n⟩;change Pr _ _ _ _ (PS m) _ at n;go_wp2_with fail;refine n.name.mono ?_;rintro a Q ⟨rfl,A⟩;go_wp2_with fail;refine((A.new #[θ (cM (PS m).tk),ι κ (PS m).place] 110).sign IV).mono ?_;rintro a R ⟨rfl,r⟩;change Pr _ _ _ _ (grC m) _ at r;go_wp2_with fail;refine r.names.mono ?_;rintro a T ⟨i,c,j,k,rfl,B,b⟩;have u:=ak b;clear b;go_wp2_with fail;refine(B.sign Ew).mono ?_;rintro a U ⟨rfl,C⟩;go_wp2_with fail;refine(C.sign sU).mono ?_;rintro a V ⟨rfl,e⟩;change Pr _ _ _ _ (grE m) _ at e;have x:=e.drew.formula;obtain⟨G,H⟩:=eS e.drop.box;obtain⟨D,E⟩:=eS e.drop.drop.box;go_wp2_with fail;go_region_with((with_reducible refine dQ x ?_);rintro a W ⟨f,g,rfl,l,b⟩;obtain⟨I,K⟩:=eS l.drop.box;obtain⟨M,N⟩:=eS l.drop.drop.box;have v:=ak b;clear b);all_goals (try go_wp2_with fail);go_ret;exact⟨i,c,j,k,f,g,rfl,fin [_] l,λs=>⟨u.J (jb (jb (DS s))),v.J s⟩⟩
end
def PT(pl:Nat)(t:Nm):gx:={ bare kW pl with table:=t }
inductive Kc (w:ω) (base:Nat):υ->Bi->Prop
 | Vn (t:Nm) (cols:List (Nm×Nat)) (v:υ):w.ownsRow base 168 3 v cols.length (Vf cols)->Kc w base (.iface 171 (χ #[θ t.1,ι κ t.2,v])) (.create t cols)
 | ahN (t:Nm):Kc w base (.iface 133 (χ #[θ t.1,ι κ t.2])) (.drop t)
 | ahO (t:Nm) (v:υ) (vs:List (Nat×υ)) (rows:List uU):w.ownsRow base 174 2 v vs.length (tE vs)->Each (fun a r=>a.1=r.pl/\apg w base a.2 r) vs rows->Kc w base (.iface 179 (χ #[θ t.1,ι κ t.2,v])) (.load t rows)
 | acG (u t:Nm) (cols:List Nm) (e:Ex) (pl:Nat) (v:υ):w.ownsRow base 110 2 v cols.length (DK cols)->Kc w base (.iface 188 (χ #[θ u.1,ι κ u.2,θ t.1,ι κ t.2,v,ι κ pl,oL e])) (.vB u t cols e pl)
 | Vo (u t:Nm):Kc w base (.iface 136 (χ #[θ u.1,ι κ u.2,θ t.1,ι κ t.2])) (.wI u t)
 | acH (pl:Nat) (t:Nm) (v:υ) (vs:List (Nat×υ)) (ss:List gx):w.ownsRow base 193 2 v vs.length (tE vs)->Each (fun a s=>a.1=s.pl/\M1 w base a.2 s) vs ss->Kc w base (.iface 113 (χ #[ι κ pl,θ t.1,ι κ t.2,v])) (.query (PT pl t :: ss))
section
variable {m:Mode} (hw:m.tk.wf)
include hw
theorem tX:m.is sG=decide (aU m.tk=30):=eM (i:=9) hw rfl (by decide)
theorem Ey:m.is EH=decide (aU m.tk=31):=eM (i:=10) hw rfl (by decide)
theorem IY:m.is Gt=decide (aU m.tk=32):=eM (i:=11) hw rfl (by decide)
theorem Gn:m.is DE=decide (aU m.tk=33):=eM (i:=12) hw rfl (by decide)
theorem IZ:m.is Ce=decide (aU m.tk=34):=eM (i:=13) hw rfl (by decide)
theorem acI:m.is kW=decide (aU m.tk=21):=eM (i:=0) hw rfl (by decide)
theorem TM(a:aU m.tk=30):cD m=(.create m.next.name.1 (dc tj (m.next.name.2.take dA)).1,(dc tj (m.next.name.2.take dA)).2.take fG):=by unfold cD;rw[tX hw,bK a];rfl
theorem acJ(a:aU m.tk=31):cD m=(.drop m.next.name.1,m.next.name.2):=by unfold cD;rw[tX hw,Ey hw,bK a,aP (show¬aU m.tk=30 by omega)];rfl
theorem acK(a:aU m.tk=32):cD m=(.load m.next.name.1 (mC (j6 m.next.name.2).2.len [(j6 m.next.name.2).1] (j6 m.next.name.2).2).1,(mC (j6 m.next.name.2).2.len [(j6 m.next.name.2).1] (j6 m.next.name.2).2).2):=by unfold cD;rw[tX hw,Ey hw,IY hw,bK a,aP (show¬aU m.tk=30 by omega),aP (show¬aU m.tk=31 by omega)];rfl
theorem Ym(a:aU m.tk=33):cD m=(.vB m.next.name.1 (PS m.next).name.1 (jK (grC m.next)).1 (oT (grE m.next)).1.1 (oT (grE m.next)).1.2,(oT (grE m.next)).2):=by unfold cD;rw[tX hw,Ey hw,IY hw,Gn hw,bK a,aP (show¬aU m.tk=30 by omega),aP (show¬aU m.tk=31 by omega),aP (show¬aU m.tk=32 by omega)];rfl
theorem TN(a:aU m.tk=34):cD m=(.wI m.next.name.1 (PS m.next).name.1,(PS m.next).name.2):=by unfold cD;rw[tX hw,Ey hw,IY hw,Gn hw,IZ hw,bK a,aP (show¬aU m.tk=30 by omega),aP (show¬aU m.tk=31 by omega),aP (show¬aU m.tk=32 by omega),aP (show¬aU m.tk=33 by omega)];rfl
theorem acL(a:aU m.tk=21):cD m=(.query (gN m.next.name.2.len [PT m.place m.next.name.1] m.next.name.2).1,(gN m.next.name.2.len [PT m.place m.next.name.1] m.next.name.2).2):=by
 have b:m.take kW=m.next:=by unfold Mode.take;rw[acI hw,bK a];rfl
 unfold cD;rw[tX hw,Ey hw,IY hw,Gn hw,IZ hw,b,aP (show¬aU m.tk=30 by omega),aP (show¬aU m.tk=31 by omega),aP (show¬aU m.tk=32 by omega),aP (show¬aU m.tk=33 by omega),aP (show¬aU m.tk=34 by omega)];rfl
theorem acM(c:¬aU m.tk=30)(e:¬aU m.tk=31)(f:¬aU m.tk=32)(g:¬aU m.tk=33)(i:¬aU m.tk=34)(b:¬aU m.tk=21):(cD m).2=m.wrong 2:=by
 have j:m.take kW=m.wrong 2:=by unfold Mode.take;rw[acI hw,aP b];rfl
 obtain⟨k,l,a⟩:=wT m 2;unfold cD;rw[tX hw,Ey hw,IY hw,Gn hw,IZ hw,j,aP c,aP e,aP f,aP g,aP i,a];rfl
end
theorem Yn{m:Mode}:∀{a:Nat} {b:List uU},(mC a b m).2.alive->m.alive:=by
 intro a b
 induction a generalizing b m with
 |zero=>exact id
 |succ a f=>
   unfold mC;split
   . intro e
     have c:=f e;exact pN.mpr (ag (pN.mp c) (ag (yx m) (take_len m dA)))
   . exact id
theorem PU{m:Mode}:∀{a:Nat} {b:List gx},(gN a b m).2.alive->m.alive:=by
 intro a b
 induction a generalizing b m with
 |zero=>exact id
 |succ a f=>
   unfold gN;split
   . intro e
     have c:=f e;exact pN.mpr (ag (pN.mp c) (ag (Lj m.next) dr))
   . exact id
section
variable {o:ω×Option Nat} {w w':ω} {p d:Nat} {m:Mode} {L:List It}
theorem Pr.command(I:Pr o w p 0 m L):Calls prog 44 #[π (σ ⟨p,0,ν⟩)] w λg w'=>
 ∃y l,g=τ y/\Rn y/\Pr o w' p 0 (cD m).2 (l++L)/\((cD m).2.alive->∀j k,(∀A∈l,GN k j A)->Kc j k y (cD m).1):=by
 obtain⟨q,Y,fin⟩:=I.start;have hw:=I.wf;have M:=Y.take;obtain⟨a,n⟩:=nm (aU m.tk);rw[<- n]at M;rcases(show a=30\/a=31\/a=32\/a=33\/a=34\/a=21\/(¬a=30/\¬a=31/\¬a=32/\¬a=33/\¬a=34/\¬a=21)by omega)with rfl|rfl|rfl|rfl|rfl|rfl|⟨e,Q,R,T,U,V⟩;all_goals
  (try
    have e1:((a:Int)==30)=false:=Eu e;have O:((a:Int)==31)=false:=Eu Q;have e3:((a:Int)==32)=false:=Eu R;have e4:((a:Int)==33)=false:=Eu T;have e5:((a:Int)==34)=false:=Eu U;have e6:((a:Int)==21)=false:=Eu V)
  first
   |have f:=ak (TM hw n.symm)
   |have f:=ak (acJ hw n.symm)
   |have f:=ak (acK hw n.symm)
   |have f:=ak (Ym hw n.symm)
   |have f:=ak (TN hw n.symm)
   |have f:=ak (acL hw n.symm)
   |have f:=ak (acM hw (by omega) (by omega) (by omega) (by omega) (by omega) (by omega))
  (try clear e Q R T U V);clear n;go_in;go_wp2_with fail;refine M.mono ?_;rintro g w0 ⟨rfl,s⟩;go_wp2_with fail
 {refine(s.new _ _).create.mono ?_;rintro g u ⟨E,D,G,xs,rfl,b,i⟩;have r:=ak i;clear i;go_wp2_with fail;go_ret;rw[f.J];refine⟨_,[_],rfl,.inr ⟨_,_,rfl⟩,fin [_] b,λc j k e=>?_⟩;have B:=r.J c;subst B;rw[<- (nL m.next).2 (jb (Kx (IJ 0 0).2.1 (jb c)))];have t:=q8 (l:=(dc tj (m.next.name.2.take dA)).1) b.row (λ_=>rfl) (by decide);exact .Vn (cM m.next.tk,m.next.place) _ _ (t ▸ e _ (.head _))};{refine(s.new _ _).name.mono ?_;rintro g u ⟨rfl,b⟩;go_wp2_with fail;go_ret;rw[f.J];refine⟨_,[],rfl,.inr ⟨_,_,rfl⟩,fin [] b,λc j k e=>?_⟩;rw[<- (nL m.next).2 c];exact .ahN (cM m.next.tk,m.next.place)};{refine(s.new _ _).load.mono ?_;rintro g u ⟨E,D,G,x,l,rfl,b,i⟩;have r:=ak i;clear i;go_wp2_with fail;go_ret;rw[f.J];refine⟨_,.inr _::l,rfl,.inr ⟨_,_,rfl⟩,fin (.inr _::l) b,λc j k e=>?_⟩;rw[<- (nL m.next).2 (jb (back (yx _) (Yn c)))];have t:=q8 (l:=x) b.row (λ_=>rfl) (by decide);exact .ahO (cM m.next.tk,m.next.place) _ x _ (t ▸ e _ (.head _)) ((r.J c).mono λA _ g P=>⟨P.1,P.2 j k λH C=>e H (.tail _ C)⟩)};{refine(s.new _ _).vB.mono ?_;rintro g u ⟨E,D,G,xs,ab,y,rfl,b,i⟩;have r:=ak i;clear i;go_wp2_with fail;go_ret;rw[f.J];refine⟨_,[_],rfl,.inr ⟨_,_,rfl⟩,fin [_] b,λc j k e=>?_⟩;obtain⟨B,O⟩:=r.J c;subst B;have N:(grC m.next).alive:=Kx dI (jb (jb (DS c)));have aT:(PS m.next).alive:=back (dI _) (jb N);have t:=q8 (l:=(jK (grC m.next)).1) b.row (λ_=>rfl) (by decide);rw[<- (nL m.next).2 (jb aT),<- (nL (PS m.next)).2 (jb N),O];exact .acG (cM m.next.tk,m.next.place) (cM (PS m.next).tk,(PS m.next).place) _ _ _ _ (t ▸ e _ (.head _))};{refine(s.new _ _).name.mono ?_;rintro g u ⟨rfl,b⟩;go_wp2_with fail;refine((b.new #[θ (cM m.next.tk),ι κ m.next.place] 110).sign iOn).mono ?_;rintro g w2 ⟨rfl,z⟩;change Pr _ _ _ _ (PS m.next) _ at z;have X:=z.drew.name;obtain⟨n0,n1⟩:=eS z.box;go_wp2_with fail;go_region_with((with_reducible refine dQ X ?_);rintro g w3 ⟨rfl,K⟩;obtain⟨u0,u1⟩:=eS K.box);all_goals (try go_wp2_with fail);go_ret;rw[f.J];refine⟨_,[],rfl,.inr ⟨_,_,rfl⟩,fin [] K,λc j k e=>?_⟩;rw[<- (nL m.next).2 (jb (back (dI _) c)),<- (nL (PS m.next)).2 c];exact .Vo (cM m.next.tk,m.next.place) (cM (PS m.next).tk,(PS m.next).place)};{refine((s.new _ _).query m.place (PT m.place m.next.name.1)).mono ?_;rintro g u ⟨E,D,G,x,Z,l,rfl,b,v,i⟩;have r:=ak i;have W:=ak v;clear i v;go_wp2_with fail;go_ret;rw[f.J];refine⟨_,.inr _::l,rfl,.inr ⟨_,_,rfl⟩,fin (.inr _::l) b,λc j k e=>?_⟩;show Kc _ _ _ (.query (gN m.next.name.2.len [PT m.place m.next.name.1] m.next.name.2).1);rw[W.J,<- (nL m.next).2 (PU c)];have t:=q8 (l:=x) b.row (λ_=>rfl) (by decide);exact .acH m.place (cM m.next.tk,m.next.place) _ x Z (t ▸ e _ (.head _)) ((r.J c).mono λA _ aa v=>⟨v.1,v.2 j k λH C=>e H (.tail _ C)⟩)};refine((s.new _ _).refuse _ _ _ _).mono ?_;rintro g u ⟨rfl,b⟩;rw[pM]at b;go_wp2_with fail;go_ret;rw[f.J];exact⟨_,[],rfl,.inl rfl,fin [] b,λc=>absurd c (di m 2)⟩
end
def PV(m:Mode):Mode:=match m with
 |.live ⟨.stop,_⟩ _=>m
 |_=>m.wrong 2
theorem af5{S:ByteArray}(f:S.size<=300):iG S=match PV (cD (Mode.of (fM S 0))).2 with
 |.dead b a=>.inr (b,a)
 |.live _ _=>.inl (cD (Mode.of (fM S 0))).1:=by
 unfold iG;rw[aE (by omega)];simp only;generalize (cD (Mode.of (fM S 0))).2=M
 cases M with
 |dead b a=>rfl
 |live e i=>
   obtain⟨c,g⟩:=e
   cases c<;>rfl
theorem Yo{m:Mode}(hw:m.tk.wf):(aU m.tk=0->PV m=m/\m.alive)/\(¬aU m.tk=0->PV m=m.wrong 2):=by
 unfold PV
 cases m with
 |dead g f=>exact⟨λa=>by simp[Mode.tk,aU]at a,λ_=>rfl⟩
 |live e j=>
   obtain⟨c,i⟩:=e
   cases c with
   |stop=>exact⟨λ_=>⟨rfl,trivial⟩,λa=>absurd rfl a⟩
   |bad=>exact⟨λa=>by simp[Mode.tk,aU]at a,λ_=>rfl⟩
   |name b=>exact⟨λa=>by simp[Mode.tk,aU]at a,λ_=>rfl⟩
   |num b=>exact⟨λa=>by simp[Mode.tk,aU]at a,λ_=>rfl⟩
   |str b=>exact⟨λa=>by simp[Mode.tk,aU]at a,λ_=>rfl⟩
   |sign b=>exact⟨λa=>by simp[Mode.tk,aU]at a,λ_=>rfl⟩
   |word b=>exact⟨λa=>by simp[Mode.tk,aU]at a,λ_=>rfl⟩
def apj(w:ω)(base:Nat)(v:υ)(c:Bi):Prop:=∀W:ω,(∀g,base<=g->g<w.heap.size->W.heap[g]?=w.heap[g]?)->Kc W base v c
def Gp(w':ω)(base:Nat)(r:Ending)(S:ByteArray):Prop:=
 ∃v e b,r=τ (.tuple #[v,χ #[ι κ (e:Nat),ι κ (b:Nat)]])/\Rn v/\match iG S with
   |.inl c=>e=0/\apj w' base v c
   |.inr q=>e=q.1/\b=q.2/\e≠0
theorem I0{w f:ω}{p:Nat}(a:δ w.heap.size w l)(b:aX (Other p l) l f)(g:w.heap.size<=p):δ w.heap.size w f:=
 ⟨b.os.trans a.os,b.tape.trans a.tape,b.output.trans a.output,ag a.size b.size,λc e=>(b.block c ⟨by omega,ai e a.size⟩).trans (a.block c e)⟩
theorem TP{w:ω}(c:δ w.heap.size w l)(a b:υ):δ w.heap.size w ((l.setCell (Ad w.heap.size 0) a).setCell (Ad w.heap.size 1) b):=
 (c.setCell (p:=(Ad w.heap.size 0)) (ae _) a).setCell (p:=(Ad w.heap.size 1)) (ae _) b
def af6(e b:Nat):Mode->Prop
 |.live _ _=>e=0
 |.dead e' b'=>e=e'/\b=b'/\e≠0
theorem Pr.wrong{o:ω×Option Nat}{w:ω}{p d:Nat}{m:Mode}{L:List It}(S:Pr o w p d m L):∃c b:Nat,w.cell? (Ad p 3)=σ (ι κ c)/\w.cell? (Ad p 4)=σ (ι κ b)/\Hid (af6 c b m):=by
 obtain⟨e,i,a,-⟩:=S.ex;refine⟨e.e,e.b,a.wE.cell 3,a.wE.cell 4,ak ?_⟩;have:=a.mode
 cases m with
 |live j k=>exact this.1
 |dead f g=>exact⟨this.1,this.2.1,this.1 ▸ this.2.2.1⟩
theorem Yp(S:ByteArray)(w:ω)(G:S.size<=300)(e:Cp w)(Y:NL w):Calls prog 26 #[θ S] w λt w'=>
 Gp w' w.heap.size t S/\δ w.heap.size w w':=by
 have nQ:=e.size;have y:δ w.heap.size w (w.alloc (ξ #[ι κ 0,ι κ 0] 76)):=(ah _ _).alloc (ae _) _;have am:=Re S (w.alloc (ξ #[ι κ 0,ι κ 0] 76)) G (e.below y nQ);have HO:=ak (λs I H=>(y.cell (p:=(Ad 8 s)) (by show 8<_;omega)).trans (Y s I H));have Br:=ak y;clear e Y y;go_in;go_wp2_with fail;refine am.mono ?_;rintro t i ⟨v1,rfl,u,x⟩;obtain⟨K,M,rfl⟩:=NJ u;obtain⟨f,n⟩:=nm (i.alloc (ξ #[ψ K (fM S 0).length M,ι κ 0,ι κ 0,ι κ 0,ι κ 0] 102));have mq:w.heap.size+1<=i.heap.size:=by have:=x.size;simpa using this
 have v:=oJ n;have S0:Pr (f,(Value.slice K (fM S 0).length M).ownBlock) f i.heap.size 0 (Mode.of (fM S 0)) []:=
  ⟨⟨⟨ψ K (fM S 0).length M,0,0,0,0⟩,fM S 0,mN.begin G (by rw[n];exact au i _) (eB (tC u (aX.Cg v) (λl e=>(u.lt l e).2)) (aK _)) (λk=>by have:=(u.lt _ k).2;omega),rfl,λl e=>⟨.inl e,λj c=>by cases c⟩⟩,aX.refl _ _,(λj c=>by cases c),.nil,⟨by omega,by show i.heap.size<f.heap.size;rw[n];simp⟩,λs I H=>(v.cell (p:=(Ad 8 s)) (by show 8<_;omega)).trans ((x.cell (p:=(Ad 8 s)) (by simp;omega)).trans (HO.J s I H))⟩
 have g:i.heap.size+1=f.heap.size:=by rw[n];simp
 have HF:=ak ((v.block w.heap.size (by omega)).trans ((x.block w.heap.size (by simp)).trans (au w (ξ #[ι κ 0,ι κ 0] 76))));have HB:=ak ((Br.J.trans (x.mono (by simp))).trans (v.mono (by omega)));have ab:=S0.command;have HZ:=ak g;have cL:i.heap.size<f.heap.size:=by omega
 clear u x v g;go_wp2_with fail;rw[<- n];clear n;refine ab.mono ?_;rintro t w3 ⟨aa,ap,rfl,X,S3,V⟩;have R:=ak V;have al:=ak X;clear V X;go_wp2_with fail;refine S3.next.mono ?_;rintro t N ⟨rfl,z⟩;obtain⟨a,E⟩:=nm ((cD (Mode.of (fM S 0))).2);rw[<- E]at z R ⊢;have C:=Yo z.wf;have hf:=λw=>(vF (aU a.tk) a.place (cM a.tk) (fR a.tk) w).1;have Qz:Hid (iG S=match PV a with
  |.dead k A=>.inr (k,A)
  |.live _ _=>.inl (cD (Mode.of (fM S 0))).1):=ak (by rw[E];exact af5 G)
 clear E;by_cases g:aU a.tk=0;(case' pos=>have ao:((aU a.tk:Int) != 0)=false:=(by rw[g];rfl);obtain⟨r,Z⟩:=C.1 g;have b:=z;have Q:=ak (show(PV a).alive->a.alive fromλ_=>Z);rw[<- r]at b;clear C r Z g);(case' neg=>have ao:((aU a.tk:Int) != 0)=true:=(by rw[jA];omega);have r:=C.2 g;have Q:=ak (show(PV a).alive->a.alive fromλc=>by rw[r]at c;exact absurd c (di a 2));have ad:=ak r;clear C r g;go_wp2_with fail;refine z.next.mono ?_;rintro t w5 ⟨rfl,S5⟩;go_wp2_with fail;refine(S5.refuse _ _ _ _).mono ?_;rintro t N ⟨rfl,b⟩;change Pr _ _ _ _ (a.wrong 2) _ at b;rw[<- ad.J]at b);all_goals
  obtain⟨k,A,p3,p4,ac⟩:=b.wrong;have D:=(b.fr.block w.heap.size ⟨by omega,by show _<f.heap.size;omega⟩).trans HF.J;obtain⟨q0,q1⟩:=eS D;have ar:=bU D;have fE:¬(i.heap.size=w.heap.size):=by omega
  have tN:Hid (∀O P,Gp (((N.setCell (Ad w.heap.size 0) O).setCell (Ad w.heap.size 1) P).drew) w.heap.size (τ (.tuple #[aa,χ #[ι κ k,ι κ A]])) S/\δ w.heap.size w (((N.setCell (Ad w.heap.size 0) O).setCell (Ad w.heap.size 1) P).drew)):=ak λO P=>by
   refine⟨⟨aa,k,A,rfl,al.J,?_⟩,aH (TP (I0 HB.J b.fr (by omega)) _ _)⟩;rw[Qz.J];have B:=ac.J;have T:=Q.J
   cases hE:PV a with
   |dead j an=>rw[hE]at B;exact B
   |live j an=>
     rw[hE]at B T;refine⟨B,λaq hV=>R.J (T trivial) _ _ λj c=>ZQ (Cr (b.ok j (eF _ c)) λl e=>?_) (show w.heap.size<=f.heap.size by omega)⟩;obtain⟨h3,U⟩:=AV (b.ok j (eF _ c)) e;have U:f.heap.size<=l:=U;have W:l≠w.heap.size:=by omega
     exact(hV l (by omega) (by simpa using h3)).trans ((ay _ _ _ _ W).trans (ay _ _ _ _ W))
  clear D;(try go_wp2_with fail);go_region;all_goals (try go_wp2_with fail);(try simp only[Exit.inBlock,Exit.then]);refine aB (v:=_) (by simp[results,results26,go_sem,q0,q1];rfl) rfl ?_;exact tN.J _ _
