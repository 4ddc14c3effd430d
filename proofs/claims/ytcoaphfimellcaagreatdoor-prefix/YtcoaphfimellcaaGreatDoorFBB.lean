import Derived.Test.YtcoaphfimellcaaGreatDoorFAY
import Derived.Test.YtcoaphfimellcaaGreatDoorFAZ
import Derived.Test.YtcoaphfimellcaaGreatDoorFBA
set_option maxHeartbeats 0
set_option maxRecDepth 100000
namespace Go.Proofs.YtcoaphfimellcaaGreatDoor
open Go.RowKit
open _root_.Go.Proofs.Tryz
open Option renaming some→σ,none→ν
open Go.IntKind renaming i64→κ
open Go renaming World→ω,Value→υ
open Go.RowKit renaming Below→δ
open Go.Value renaming int→ι,slice→ψ,pointer→π,agg→χ
variable{w l:ω}{p:υ}{m v i:Nat}{x:Option Addr}{n:Nat->Prop}
inductive Ar where
 | gK (e:Ex) (pl:Nat)
 | mapA (rs:List Cb)
 | kh (n:Nat)
 | gF (pl:Nat)
def lj(cols:List bu):Ar->(Nat×Nat) ⊕ List bu
 |.gK e pl=>if(pj cols e pl).1=0 then .inr cols else .inl (pj cols e pl)
 |.mapA rs=>gS cols rs []
 |.kh _=>.inr cols
 |.gF pl=>.inl (2,pl)
def oq(cols:List bu)(R:List (List aB)):Ar->Nat ⊕ List (List aB)
 |.gK e _=>j6 (λrow=>cU cols row e) R
 |.mapA rs=>dL (pB cols rs) R
 |.kh n=>.inr (R.take n)
 |.gF _=>.inr R
def qg:Ar->Prop
 |.gK e _=>pI e/\Ao e
 |.mapA rs=>rs≠[]/\rs.length<=302/\∀r∈rs,pI r.2.1/\Ao r.2.1/\Nm8 r.1.1
 |_=>True
inductive D8 (w:ω):υ->Ar->Prop
 | gK (e:Ex) (pl:Nat):D8 w (.iface 261 (χ #[ι κ pl,pz e])) (.gK e pl)
 | mapA (v:υ) (rs:List Cb):bz w 4 v rs.length (rs.flatMap U2)->D8 w (.iface 291 (χ #[v])) (.mapA rs)
 | kh (n:Nat):D8 w (.iface 293 (χ #[ι κ n])) (.kh n)
 | gF (pl:Nat):D8 w (.iface 295 (χ #[ι κ pl])) (.gF pl)
theorem D8.below{c:Ar}(a:D8 w p c)(f:δ m w l)(e:w.heap.size<=m):D8 l p c:=by cases a with|gK d b=>exact .gK d b|mapA p i a=>exact .mapA p i (bz.below a f e)|kh g=>exact .kh g|gF b=>exact .gF b
def amR(w w':ω)(O:(Nat×Nat) ⊕ List bu)(e:Ending):Prop:=δ w.heap.size w w'/\(∀g,O=.inl g->g.1≠0/\∃a n c,e=.returned (.tuple #[ψ a n c,χ #[ι κ g.1,ι κ g.2]]))/\∀l,O=.inr l->∃a n c,e=.returned (.tuple #[ψ a n c,χ #[ι κ 0,ι κ 0]])/\eT w' (ψ a n c) l
def XF(M:Nat->Prop)(w w':ω)(nc:List bu)(W:Nat ⊕ List (List aB))(r:Ending):Prop:=
 ∃a2 m2 c2 a m c q1 q2,r=.returned (.tuple #[χ #[ψ a2 m2 c2,ψ a m c],χ #[ι κ q1,ι κ q2]])/\δ w.heap.size w w'/\oo M w' (ψ a2 m2 c2) nc/\(∃L,L.length=nc.length/\jC M w' (ψ a m c) L)/\(∀p,W=.inl p->q1=9/\q2=(p:Int))/\∀R',W=.inr R'->q1=0/\q2=0/\jC M w' (ψ a m c) (bh nc.length R')
theorem oo.cols{c:Nat->Prop}{a:ω}{b:υ}{cols:List bu}(d:oo c a b cols):eT a b cols:=d a (ae _) (λ_ _ _=>rfl)
theorem oo.below{cols:List bu}(e:oo n w p cols)(a:δ w.heap.size w l):oo n l p cols:=λW f g=>e W (ag a.size f) (λc b d=>(g c (ai b a.size) d).trans (a.block c b))
theorem jC.below{b:List (List aB)}(f:jC n w p b)(a:δ w.heap.size w l):jC n l p b:=λW g i=>f W (ag a.size g) (λd c e=>(i d (ai c a.size) e).trans (a.block d c))
theorem qh{cols:List bu}{q:Nat×Nat}:∀{c:Ex},cL cols c=.inr q->q.1≠0
 |.num _,h=>by cases h
 |.str _,h=>by cases h
 |.bool _,h=>by cases h
 |.junk,h=>by cases h
 |.col s a,h=>by
   simp only[cL]at h;split at h
   . cases h
   . cases h;simp
 |.j8 no a x,h=>by
   simp only[cL]at h;split at h
   . rename_i c b;cases h;exact qh b
   . cases h
 |.neg a x,h=>by
   simp only[cL]at h;split at h
   . rename_i c b;cases h;exact qh b
   . split at h
     . cases h
     . cases h;simp
 |.not a x,h=>by
   simp only[cL]at h;split at h
   . rename_i c b;cases h;exact qh b
   . split at h
     . cases h
     . cases h;simp
 |.two op a x y,h=>by
   simp only[cL]at h;split at h
   . rename_i c b;cases h;exact qh b
   . split at h
     . rename_i c d;cases h;exact qh d
     . generalize (if pZ op=true then(0:Nat)else 2)=wt at h
       split at h
       . cases h;simp
       . cases h
theorem Bi{cols:List bu}{q:Nat×Nat}:∀{b:List Cb} {a:List bu},gS cols b a=.inl q->q.1≠0
 |[],_,h=>by cases h
 |r::b,a,h=>by
   simp only[gS]at h;split at h
   . cases h;simp
   . split at h
     . rename_i d c;cases h;exact qh c
     . exact Bi h
theorem Hw{cols:List bu}{b:Ex}(a:(pj cols b m).1=0):cL cols b=.inl 2/\pj cols b m=(0,0):=by unfold pj at a ⊢;cases hk:cL cols b with|inr e=>rw[hk]at a;exact absurd a (qh hk)|inl d=>rw[hk]at a;simp only at a ⊢;split at a;{cases a};rename_i c;have:d=2:=Decidable.byContradiction c;subst this;exact⟨rfl,by simp⟩
theorem adT{k:Ar}(n:D8 w p k)(o:qg k){cols:List bu}(i:eT w (ψ x m v) cols)(t:cols.length<=1000):∃z d f,p=.iface z d/\(∀w,Sem.run prog (method 566 z d "quarry/quarry.over") w=.ok (f,d) w)/\(∀(s:Array υ) (w:ω),Sem.run prog (callFunc f s) w=.ok (.enter f s) w)/\Calls prog f #[d,ψ x m v] w (λl e=>amR w e (lj cols k) l):=by cases n with|gK l y=>(refine⟨_,_,309,rfl,λw=>by kernel_rfl,call309,(YZ o.1 i t).mono ?_⟩;rintro _ e ⟨rfl,c⟩;refine⟨c,λg a=>?_,λj b=>?_⟩;{simp only[lj]at a;split at a;{cases a};rename_i r;cases a;exact⟨r,_,_,_,rfl⟩};simp only[lj]at b;split at b;{rename_i r;cases b;exact⟨_,_,_,by rw[(Hw r).2];rfl,i.below c (ae _)⟩};cases b)|mapA p H C=>(refine⟨_,_,311,rfl,λw=>by kernel_rfl,call311,(Jq i t C (λd n=>(o.2.2 d n).1) (ag o.2.1 (by decide))).mono ?_⟩;rintro l e ⟨c,A,B⟩;refine⟨c,λg a=>⟨Bi a,_,_,_,A g a⟩,λj b=>?_⟩;obtain⟨G,rfl,u⟩:=B j b;obtain⟨E,F,rfl,-,-⟩:=cu u;exact⟨_,_,_,rfl,bz.fM u⟩)|kh D=>(refine⟨_,_,314,rfl,λw=>by kernel_rfl,call314,(YX D x m v w).mono ?_⟩;rintro _ e ⟨rfl,c⟩;exact⟨c,λg a=>(by cases a),λj b=>by cases b;exact⟨_,_,_,rfl,i.below c (ae _)⟩⟩)|gF y=>refine⟨_,_,316,rfl,λw=>by kernel_rfl,call316,(Qn y x m v w).mono ?_⟩;rintro _ e ⟨rfl,c⟩;exact⟨c,λg a=>by cases a;exact⟨by simp,_,_,_,rfl⟩,λj b=>by cases b⟩
theorem adU{k:Ar}(t:D8 w p k)(n:qg k){cols P:List bu}{E:Option Addr}{F S:Nat}{j:List (List aB)}{M:Nat->Prop}(z:∀D,M D->D<w.heap.size)(A:oo M w (ψ x m v) cols)(u:0<cols.length)(y:cols.length<=1000)(e:lj cols k=.inr P)(L:jC M w (ψ E i F) (bh cols.length j))(H:j.length<=64)(O:∀b∈j,iy cols b)(I:0<S)(B:S<=64):∃Q b l,p=.iface Q b/\(∀w,Sem.run prog (method 566 Q b "quarry/quarry.work") w=.ok (l,b) w)/\(∀(C:Array υ) (w:ω),Sem.run prog (callFunc l C) w=.ok (.enter l C) w)/\Calls prog l #[b,χ #[ψ x m v,ψ E i F],ι κ S] w (λs r=>XF M w r P (oq cols j k) s):=by have N:=A.cols;have K:=L.batch;cases t with|gK s pl=>(simp only[lj]at e;split at e;{rename_i Y;cases e;refine⟨_,_,310,rfl,λw=>by kernel_rfl,call310,(ZR n.1 (Hw Y).1 N u y K H O I B).mono ?_⟩;rintro _ r ⟨R,m1,c1,al,rfl,g,R',a,d⟩;have d:=d M z;refine⟨_,_,_,_,_,_,_,_,rfl,g,A.below g,⟨_,bE _ _,d⟩,λab o=>?_,λf c=>?_⟩;{unfold wY at a;simp only[oq]at o;rw[o]at a;simp only at a;exact⟨by rw[a.1];rfl,by rw[a.2]⟩};unfold wY at a;simp only[oq]at c;rw[c]at a;simp only at a;obtain⟨rfl,rfl⟩:=a;exact⟨rfl,rfl,d⟩};cases e)|mapA p rs Z=>(refine⟨_,_,312,rfl,λw=>by kernel_rfl,call312,(Vh N u y Z (λb t=>(n.2.2 b t).1) (jL.mpr n.1) (ag n.2.1 (by decide)) e K H O I B).mono ?_⟩;rintro s r ⟨kv,R,m1,c1,q1,q2,rfl,T,⟨ac,ad,rfl⟩,U,G,V⟩;obtain⟨k1,k2,k3⟩:=V M z;exact⟨_,_,_,_,_,_,_,_,rfl,T,k1,k2,U,λf c=>⟨(G f c).1,(G f c).2,k3 f c⟩⟩)|kh aa=>(cases e;refine⟨_,_,315,rfl,λw=>by kernel_rfl,call315,(ZV (k:=aa) z L u y x m v S).mono ?_⟩;rintro _ r ⟨a2,m2,c2,rfl,d,g⟩;exact⟨_,_,_,_,_,_,_,_,rfl,g,A.below g,⟨_,bE _ _,d⟩,(λab o=>by cases o),(λf c=>by cases c;exact⟨rfl,rfl,d⟩)⟩)|gF pl=>cases e
abbrev mK:=Nat×Ar
def vQ(w:ω)(v:υ)(ss:List mK):Prop:=∃avs:List υ,avs.length=ss.length/\bz w 2 v ss.length ((ss.zip avs).flatMap λx=>[ι κ x.1.1,x.2])/\∀(i:Nat) (s:mK) (av:υ),ss[i]?=σ s->avs[i]?=σ av->D8 w av s.2
theorem vQ.below{c:List mK}(i:vQ w p c)(b:δ m w l)(a:w.heap.size<=m):vQ l p c:=by obtain⟨g,j,k,n⟩:=i;exact⟨g,j,bz.below k b a,λo r f d e=>(n o r f d e).below b a⟩
theorem vQ.get{e:List mK}(s:vQ w p e){d:mK}(k:e[m]?=σ d):∃b c j a,p=ψ (σ (Ad b c)) e.length j/\w.cell? (Ad b (c+m*2))=σ (ι κ d.1)/\w.cell? (Ad b (c+m*2+1))=σ a/\D8 w a d.2:=by
 obtain⟨i,A,t,u⟩:=s;have B:=(aj.mp k).1;obtain⟨b,c,j,x,-,-,y⟩:=bz.at t (by omega);obtain⟨a,l⟩:∃a,i[m]?=σ a:=⟨_,af (by omega)⟩;have z:(e.zip i)[m]?=σ (d,a):=by rw[List.getElem?_zip_eq_some];exact⟨k,l⟩
 have o:∀f (n:f<2) (g:υ),([ι κ d.1,a]:List υ)[f]?=σ g->w.cell? (Ad b (c+(m*2+f)))=σ g:=λf n g v=>y _ g (by rw[ek (λr:mK×υ=>[ι κ r.1.1,r.2]) 2 (λ_=>rfl) (e.zip i) z n];exact v);exact⟨b,c,j,a,x,o 0 (by decide) _ rfl,o 1 (by decide) _ rfl,u m d a k l⟩
theorem vQ.slice{a:List mK}(d:vQ w p a):∃b c,p=ψ b a.length c:=by obtain⟨f,-,e,-⟩:=d;exact bz.slice e
def gw(cols:List bu):List mK->Nat×Nat
 |[]=>(0,0)
 |s::l=>match lj cols s.2 with
   |.inl f=>f
   |.inr c=>gw c l
def Au(cols:List bu):Prop:=0<cols.length/\cols.length<=302
theorem D9{cols e:List bu}{b:Ar}(d:qg b)(c:Au cols)(a:lj cols b=.inr e):Au e:=by cases b with|gK g f=>simp only[lj]at a;split at a;{cases a;exact c};cases a|mapA j=>have:=vP a;unfold Au;rw[this];exact⟨jL.mpr d.1,d.2.1⟩|kh i=>cases a;exact c|gF f=>cases a
theorem MD{a:Ar}(b:D8 w p a):∃d c,p=.iface d c:=by cases b<;>exact⟨_,_,rfl⟩
theorem OO{X:ω}{e x y:υ}{d:TypeId}(b:X.heap[v]?=σ (.cells #[p,e] d (0,0)))(c:δ m w X)(a:m<=v):(((X.setCell (Ad v 0) x).setCell (Ad v 1) y).cell? (Ad v 0)=σ x/\((X.setCell (Ad v 0) x).setCell (Ad v 1) y).cell? (Ad v 1)=σ y)/\δ m w ((X.setCell (Ad v 0) x).setCell (Ad v 1) y):=⟨aS (tY b),(c.setCell a _).setCell a _⟩
theorem Z1{pl tp:Nat}{t:ByteArray}{sv:υ}{a:List mK}{cols:List bu}{j:Option Addr}(T:vQ w sv a)(hf:∀e∈a,qg e.2)(hl:a.length<=1000)(hc:eT w (ψ j m i) cols)(hn:Au cols) :
 Calls prog 68 #[χ #[ι κ pl,.string t,ι κ tp,sv],ψ j m i] w λO w'=>O=.returned (χ #[ι κ (gw cols a).1,ι κ (gw cols a).2])/\δ w.heap.size w w':=by
 obtain⟨sa,V,rfl⟩:=T.slice;have⟨W,R⟩:=nm ((w.alloc (obK pl t tp sa a.length V)).alloc (iQ 0 0));have⟨r,H,y⟩:=gT w (obK pl t tp sa a.length V) (iQ 0 0);rw[<- R]at r H y;have⟨x0,x1,x2,x3⟩:=kJ y;have ar:=ay y;have ap:=ay H;have HS:=au (T.below r (ae _));have L:=au hf;have HC:=au (hc.below r (ae _));have HW:=au R;have v:=au r;have x:=au H;go_in;go_wp2_with fail;rw[<- HW.J];go_loopw[12,1] (λG cv wr=>∃(b:Nat) (g:List bu) (j:Option Addr) (m i:Nat),b<=a.length/\G=ι κ b/\cv=ψ j m i/\Hid (eT wr (ψ j m i) g)/\Hid (gw cols a=gw g (a.drop b))/\Hid (Au g)/\Hid (δ W.heap.size W wr)) (λG _ _=>a.length - (intOf G).toNat);case atStart=>exact⟨0,cols,_,_,_,aI _,rfl,rfl,HC,au rfl,au hn,au (ah _ _)⟩
 case round=>
  obtain⟨b,g,j,m,i,hi,rfl,rfl,YW,z,K,k⟩:=hrel;by_cases p:b<a.length
  .have jY:(b:Int)<a.length:=(by omega);obtain⟨e,n⟩:∃e,a[b]?=σ e:=⟨_,af p⟩;have⟨sg,so,Ji,av,F,s0,s1,M⟩:=(HS.J.below k.J (ae _)).get n;cases F;obtain⟨te,ao,rfl⟩:=MD M;have⟨W2,rW⟩:=nm (wr.alloc (agp e.1 (.iface te ao)));have B:δ wr.heap.size wr W2:=(by rw[rW];exact lH _ _);have⟨ax,r',P,F,hm,Pv,yR⟩:=adT (M.below B (ae _)) (L.J e (aA n)) (YW.J.below B (ae _)) (ag K.J.2 (by decide));cases F;have jh:gw g (a.drop b)=match lj g e.2 with
    |.inl P=>P
    |.inr al=>gw al (a.drop (b+1)):=by rw[cE p];rw[af p]at n;cases n;rfl
   have ab:=au yR;have uG:=au jh;have U:=au B;have vG:=au rW;have ac:=au (L.J e (aA n));go_wp2_with fail;rw[<- vG.J];refine ab.J.mono ?_;rintro O w3 ⟨iw,oO,ad⟩;have I:=k.J.trans ((U.J.trans (iw.mono U.J.size)).mono k.J.size);cases hO:lj g e.2 with|inl d=>(obtain⟨am,N,Y,c1,rfl⟩:=oO d hO;have l:Hid (gw cols a=d):=au (by rw[z.J,uG.J,hO]);have aq:(((d.1:Nat):Int) != 0)=true:=(by simpa using am);have Z:=au I;go_wp2_with fail;refine(K9 _ _ _).mono ?_;rintro _ f ⟨rfl,u⟩;have Oq:f.heap[w3.heap.size]?=σ (iQ d.1 d.2):=wK u _ _ (ak w3 _);have o:=Z.J.trans ((Ve (lH w3 _) u).mono Z.J.size);have c:=wK o _ _ x.J;have⟨q0,q1⟩:=aS Oq;have⟨q2,q3⟩:=aS c;have z2:=fP c 0;have z3:=fP c 1;have A:=au (OO (x:=ι κ d.1) (y:=ι κ d.2) c (v.J.trans (o.mono v.J.size)) (bF _));go_wp2_with fail;have⟨⟨C,D⟩,E⟩:=A.J;refine aD (v:=χ #[ι κ d.1,ι κ d.2]) (by simp[results,results68,go_sem,C,D]) rfl ?_;exact⟨by rw[l.J],E⟩)|inr s=>obtain⟨N,Y,c1,rfl,an⟩:=ad s hO;have o:∀f,δ (w3.alloc (iQ 0 0)).heap.size (w3.alloc (iQ 0 0)) f->δ W.heap.size W f/\eT f (ψ N Y c1) s:=λf Q=>⟨I.trans ((Ve (lH w3 _) Q).mono I.size),an.below (Ve (lH w3 _) Q) (ae _)⟩;have Dg:=au o;have l:Hid (gw cols a=gw s (a.drop (b+1))):=au (by rw[z.J,uG.J,hO]);have aa:=au (D9 ac.J K.J hO);go_wp2_with fail;refine(K9 0 0 _).mono ?_;rintro _ f ⟨rfl,u⟩;have⟨k1,k2⟩:=Dg.J f u;have x:=au k1;have EA:=au k2;go_wp2_with fail;exact⟨⟨b+1,s,_,_,_,p,by go_num,rfl,EA,l,aa,x⟩,by simp[intOf];omega⟩
  obtain rfl:b=a.length:=(by omega);have l:Hid (gw cols a=(0,0)):=au (by rw[z.J,gB];rfl);have c:=wK k.J _ _ x.J;have⟨q2,q3⟩:=aS c;have z2:=fP c 0;have z3:=fP c 1;have A:=au (OO (x:=ι κ 0) (y:=ι κ 0) c (v.J.trans (k.J.mono v.J.size)) (bF _));go_wp2_with fail;have⟨⟨C,D⟩,E⟩:=A.J;refine aD (v:=χ #[ι κ 0,ι κ 0]) (by simp[results,results68,go_sem,C,D]) rfl ?_;exact⟨by rw[l.J];rfl,E⟩
structure wG (W wr:ω)(cols:List bu)(sv:υ)(fT:List LG):Prop where
 row:wr.ownsRow W.heap.size 216 1 sv fT.length (fT.map JJ)
 lies:yV wr (Ga fT)
 ok:Av cols W.heap.size wr.heap.size fT
 off:∀x∈fT,∀g,sv.ownBlock=σ g->g<x.lo\/x.a.heap.size<=g
 uk:δ W.heap.size W wr
section
variable {W wr w2 X w3:ω} {cols:List bu} {sv:υ} {fT:List LG}
theorem wG.nil(W:ω)(cols:List bu):wG W W cols (ψ ν 0 0) []:=⟨⟨rfl,.inl ⟨rfl,rfl⟩⟩,λb a=>by simp[Ga]at a,⟨λb a=>(by cases a),λb a=>(by cases a),List.Pairwise.nil,λb a=>(by cases a),λb a=>(by cases a)⟩,λb a=>(by cases a),ah _ _⟩
theorem Av.wider(a:Av cols m v fT)(d:v<=i):Av cols m i fT:=⟨a.work,a.wf,a.ap,a.off,λc b=>by have:=a.low c b;omega⟩
theorem wG.below(a:wG W wr cols sv fT)(b:δ wr.heap.size wr w2):wG W w2 cols sv fT:=
 ⟨ct a.row b,λd c=>⟨wK b _ _ (a.lies d c).1,(a.lies d c).2.below b⟩,a.ok.wider b.size,a.off,Ve a.uk b⟩
theorem wG.more(d:wG W wr cols sv fT){c:Ex}{g cap:Nat}{r:Obj}(x:δ wr.heap.size wr X)(j:adu X w2 cols c m p w v)(I:pI c)(o:cL cols c=.inl 2)
 (L:w3.ownsRow W.heap.size 216 1 (ψ (σ ⟨g,0,ν⟩) (fT.length+1) cap) (fT.length+1) (fT.map JJ++[π (σ ⟨m,0,ν⟩)])) (k:(w2.alloc r).grownBy w3 sv.ownBlock) (A:sv.ownBlock=σ g\/w2.heap.size+1<=g) :
 wG W w3 cols (ψ (σ ⟨g,0,ν⟩) (fT.length+1) cap) (fT++[⟨m,p,w,v,c⟩]):=by
 have D:=x.trans (j.uk.mono x.size);have s:=lH w2 r;have C:=d.below (Ve D s);have N:(w2.alloc r).heap.size=w2.heap.size+1:=by simp
 have K:=k.size;rw[N]at K;have Y:=ay j.fQ;have Q:=j.kept.1;have T:=x.size;have V:=j.low;have Z:=j.new;have P:=j.off;have B:∀b,sv.ownBlock=σ b->b<wr.heap.size:=λb o=>(d.row.lt b o).2;have F:∀(i:MF),yV (w2.alloc r) [i]->(∀b,sv.ownBlock=σ b->b<i.1.lo\/i.1.a.heap.size<=b)->yV w3 [i]:=λi f M y l=>by
  rw[a6]at l;subst l;obtain⟨t,u⟩:=f y (by simp);refine⟨(k.block _ (ay t) (λc=>?_)).trans t,ag u.1 k.size,λb O G=>(k.block b (ai G u.1) (λc=>by have:=M b c.symm;omega)).trans (u.2 b O G)⟩;obtain⟨R,E⟩:=qL C.row c.symm;rw[t]at E
  cases E
 refine⟨?_,λe a=>?_,⟨λe a=>?_,λe a=>?_,?_,λe a i f=>?_,λe a=>?_⟩,λe a b H=>?_,?_⟩;{rw[aw,cZ];exact L}
 .unfold Ga at a;rw[cZ,bn]at a;rcases a with a|a
  {obtain⟨i,f,rfl⟩:=cI.mp a;exact F _ (λy l=>by rw[a6]at l;subst l;exact C.lies _ a) (d.off i f) _ (by simp)};simp at a;subst a;exact F (⟨m,p,w,v,c⟩,(0,0,0)) (λy l=>by rw[a6]at l;subst l;exact⟨wK s _ _ j.fQ,j.kept.below s⟩) (λb o=>.inl (by have:=B b o;dsimp only;omega)) _ (by simp)
 {rcases bn.mp a with a|a;{exact d.ok.work e a};rw[a6.mp a];exact j.work};{rcases bn.mp a with a|a;{exact d.ok.wf e a};rw[a6.mp a];exact⟨I,o⟩};{refine kL.mpr ⟨d.ok.ap,kU _ _,λe a i f=>?_⟩;rw[a6.mp f];have:=(d.ok.low e a).2.1;dsimp only;omega};{rcases bn.mp a with a|a<;>rcases bn.mp f with f|f;{exact d.ok.off e a i f};{rw[a6.mp f];have:=(d.ok.low e a).2.1;dsimp only;omega};{rw[a6.mp a];have:=(d.ok.low i f).2.2;dsimp only;omega};rw[a6.mp a,a6.mp f];exact j.off};{have U:=d.uk.size;rcases bn.mp a with a|a;{have:=d.ok.low e a;omega};rw[a6.mp a];dsimp only;omega}
 .simp[Value.ownBlock]at H;subst H;rcases bn.mp a with a|a
  {rcases A with c|c;{exact d.off e a g c};have:=(d.ok.low e a).2.2;exact .inr (by omega)}
  rw[a6.mp a];dsimp only;rcases A with c|c
  {have:=B g c;exact .inl (by omega)};exact .inr (by omega)
 have n:=Ve d.uk (Ve D s);exact⟨k.os.trans n.os,k.tape.trans n.tape,k.output.trans n.output,ag n.size k.size,λb z=>(k.block b (ai z n.size) (λc=>by have:=(d.row.lt b c.symm).1;omega)).trans (n.block b z)⟩
end
def kK:List mK->List Ex
 | (_,.gK e _)::l=>e::kK l
 |_=>[]
theorem XH{cols:List bu}:∀{f:List mK},gw cols f=(0,0)->∀(b:Nat) (e:Nat) (c:Ex) (d:Nat),b<(kK f).length->f[b]?=σ (e,.gK c d)->cL cols c=.inl 2
 |[],_,_,_,_,_,h,_=>by simp[kK]at h
 | (p,.gK e' f')::l,hc,b,e,c,d,hi,hs=>by
   simp only[gw,lj]at hc;split at hc
   . rename_i k a
     split at a
     . cases a
     . rename_i g;cases a;rw[hc]at g;exact absurd rfl g
   . rename_i j a
     split at a
     . rename_i i
       cases a
       cases b with
       |zero=>cases hs;exact(Hw i).1
       |succ b=>exact XH hc b e c d (by simpa[kK]using hi) hs
     . cases a
 | (p,.mapA rs)::l,_,_,_,_,_,h,_=>by simp[kK]at h
 | (p,.kh n)::l,_,_,_,_,_,h,_=>by simp[kK]at h
 | (p,.gF n)::l,_,_,_,_,_,h,_=>by simp[kK]at h
theorem Ec:∀{ss:List mK} {i:Nat},i<=(kK ss).length->(∀d b c,ss[i]?=σ (d,.gK b c)->i<(kK ss).length/\(kK ss)[i]?=σ b)/\(∀e,ss[i]?=σ e->(∀b c,e.2≠.gK b c)->i=(kK ss).length)/\i<=ss.length
 |[],i,hi=>⟨λd b c a=>by simp at a,λe a=>by simp at a,by simpa[kK]using hi⟩
 | (p,.gK e' f')::l,0,_=>⟨λd b c a=>by cases a;simp[kK],λe a f=>by cases a;exact absurd rfl (f e' f'),aI _⟩
 | (p,.gK e' f')::l,i+1,hi=>by
   have⟨g,j,k⟩:=Ec (ss:=l) (i:=i) (by simpa[kK]using hi);refine⟨λd b c a=>?_,λe a f=>?_,by simpa using k⟩
   . have:=g d b c (by simpa using a)
     simpa[kK]using this
   . have:=j e (by simpa using a) f
     simpa[kK]using this
 | (p,.mapA rs)::l,i,hi=>by
   obtain rfl:i=0:=by simpa[kK]using hi
   exact⟨λd b c a=>(by cases a),λ_ _ _=>rfl,aI _⟩
 | (p,.kh rs)::l,i,hi=>by
   obtain rfl:i=0:=by simpa[kK]using hi
   exact⟨λd b c a=>(by cases a),λ_ _ _=>rfl,aI _⟩
 | (p,.gF rs)::l,i,hi=>by
   obtain rfl:i=0:=by simpa[kK]using hi
   exact⟨λd b c a=>(by cases a),λ_ _ _=>rfl,aI _⟩
theorem ad1(a:υ)(b:ω):(Instr.typeAssert (.iface 261 a) 191 261 true).run prog b=.ok (.tuple #[a,.bool true]) b:=by kernel_rfl
theorem Z7(b:υ)(a:ω):(Instr.typeAssert (.iface 291 b) 191 261 true).run prog a=.ok (.tuple #[χ #[ι κ 0,.nilIface],.bool false]) a:=by kernel_rfl
theorem ad2(b:υ)(a:ω):(Instr.typeAssert (.iface 293 b) 191 261 true).run prog a=.ok (.tuple #[χ #[ι κ 0,.nilIface],.bool false]) a:=by kernel_rfl
theorem Vr(b:υ)(a:ω):(Instr.typeAssert (.iface 295 b) 191 261 true).run prog a=.ok (.tuple #[χ #[ι κ 0,.nilIface],.bool false]) a:=by kernel_rfl
theorem Tryz.ad3:(prog.info? 216).map (λa=>(a.zero,a.size,a.bytes))=σ (σ (π ν),1,8):=by kernel_rfl
theorem am0{d:Ar}(a:D8 w p d):(∃b c,d=.gK b c/\p=.iface 261 (χ #[ι κ c,pz b]))\/((∀b g,d≠.gK b g)/\∃f e,p=.iface f e/\∀w,(Instr.typeAssert (.iface f e) 191 261 true).run prog w=.ok (.tuple #[χ #[ι κ 0,.nilIface],.bool false]) w):=by cases a with|gK b c=>exact .inl ⟨b,c,rfl,rfl⟩|mapA p j _=>(exact .inr ⟨λ_ _ a=>(by cases a),_,_,rfl,Z7 _⟩)|kh i=>(exact .inr ⟨λ_ _ a=>(by cases a),_,_,rfl,ad2 _⟩)|gF i=>exact .inr ⟨λ_ _ a=>(by cases a),_,_,rfl,Vr _⟩
theorem wG.from{W wr:ω}{cols:List bu}{sv:υ}{fT:List LG}(a:wG W wr cols sv fT)(b:δ w.heap.size w W):wG w wr cols sv fT:=
 ⟨fj a.row b.size,a.lies,⟨a.ok.work,a.ok.wf,a.ok.ap,a.ok.off,λd c=>by have:=a.ok.low d c;have:=b.size;omega⟩,a.off,b.trans (a.uk.mono b.size)⟩
theorem G5{e:ω}{pl tp:Nat}{t:ByteArray}{sv:υ}{a:List mK}{cols:List bu}{U:Option Addr}{Z V:Nat}(I:vQ e sv a)(hf:∀d∈a,qg d.2)(hl:a.length<=300)(hc:eT e (ψ U Z V) cols)(hn:Au cols)(O:gw cols a=(0,0)) :
 Calls prog 91 #[χ #[ι κ pl,.string t,ι κ tp,sv],ψ U Z V] e λc w'=>∃ac fT,c=.returned ac/\wG e w' cols ac fT/\fT.map (·.e)=kK a:=by
 obtain⟨sa,mo,rfl⟩:=I.slice;have⟨W,r⟩:=nm (e.alloc (obK pl t tp sa a.length mo));have w:δ e.heap.size e W:=by rw[r];exact lH _ _
 have y:W.heap[e.heap.size]?=σ (obK pl t tp sa a.length mo):=by rw[r];exact ak e _
 have⟨x0,x1,x2,x3⟩:=kJ y;have ax:=ay y;have⟨j0,Oh,Oi,Oj,Ol⟩:=jc Tryz.ad3;have HS:=I.below w (ae _);have HF:=au hf;have HC:=hc.below w (ae _);have HW:=au r;have po:=w;have ad:=au O;have FX:Hid ((kK a).length<=a.length):=au (Ec (ae _)).2.2;clear I hf hc r w y O;go_in;go_wp2_with fail;rw[<- HW.J];clear x0 x1 x2 x3;go_loopw[13,5] (λK ov wr=>∃(b:Nat) (x:Option Addr) (o:Nat) (fT:List LG),b<=(kK a).length/\K=ι κ b/\ov=ψ x b o/\fT.length=b/\Hid (wG W wr cols (ψ x b o) fT)/\Hid (fT.map (·.e)=(kK a).take b)) (λK _ _=>a.length - (intOf K).toNat);case atStart=>exact⟨0,ν,0,[],aI _,rfl,rfl,rfl,au (wG.nil W cols),au rfl⟩
 case round=>
  obtain⟨b,x,o,fT,hi,rfl,rfl,u,f,B⟩:=hrel;have⟨s,n,aq⟩:=Ec hi;by_cases cQ:b<a.length
  .have jY:(b:Int)<a.length:=(by omega);obtain⟨d,j⟩:∃d,a[b]?=σ d:=⟨_,af cQ⟩;have⟨sg,so,Ji,av,he,s0,s1,C⟩:=(HS.below f.J.uk (ae _)).get j;cases he;rcases am0 C with⟨c,g,z,rfl⟩|⟨ab,M,aC,rfl,ar⟩
   .obtain⟨M,zq,-⟩:=pT c;have E:a[b]?=σ (d.1,.gK c g):=(by rw[j,<- z]);have⟨P,aa⟩:=s d.1 c g E;have m:=HF.J d (aA j);rw[z]at m;have A:=XH ad.J b d.1 c g P E;have⟨R,L⟩:=nm ((wr.alloc (agp d.1 (.iface 261 (χ #[ι κ g,.iface M (rz c)])))).alloc (obL g (.iface M (rz c))));have G:δ wr.heap.size wr R:=(by rw[L];exact ady _ _ _)
    have Q:=Mv (w:=R) (pl:=g) m.1 A (HC.below (Ve f.J.uk G) (ae _)) (ag hn.2 (by decide));rw[zq]at Q s1;have ta:=ad1;have v:=G;have vG:=au L;have N:=au (And.intro m.1 A);have am:=au aa;have ap:W.heap.size<=wr.heap.size:=f.J.uk.size;clear z E m A G L j C s n aa;go_wp2_with fail;rw[<- vG.J];refine Q.mono ?_;rintro _ w3 ⟨i,wv,T,lo,rfl,l⟩;have H:=ct f.J.row (v.trans (l.uk.mono v.size));rw[u]at H;have Xv:W.heap.size<=w3.heap.size:=ag ap (ag v.size l.uk.size);have vu:=H.alloc (.cells #[π (σ ⟨i,0,ν⟩)] 216 (0,0));have uQ:=au (World.news_of_block (ak w3 (.cells #[π (σ ⟨i,0,ν⟩)] 216 (0,0))));have ao:=l;clear H l;go_wp2_with(at_builtin;refine cP _ rfl _ _ 207 rfl W.heap.size 216 j0 _ 1 8 underlying207 Oh Oi Oj Ol rfl (by decide) _ _ _ rfl vu ⟨w3.heap.size,0,ν⟩ 1 1 [π (σ ⟨i,0,ν⟩)] rfl rfl uQ.J (by simp[Value.oneCell']) (by decide) (by unfold maxLen;omega) (by omega) (by simp;omega) ?_;intro p fS w4 Y cx eK);have F:(Value.slice x b o).ownBlock=σ p\/(w3.alloc (.cells #[π (σ ⟨i,0,ν⟩)] 216 (0,0))).heap.size<=p:=eK;rw[r9]at F;have an:Hid (wG W w4 cols (ψ (σ ⟨p,0,ν⟩) (b+1) fS) (fT++[⟨i,wv,T,lo,c⟩])):=au (by
     have h9:=f.J.more (g:=p) (cap:=fS) (w3:=w4) v ao N.J.1 N.J.2 (by rw[u];exact Y) cx F;rw[u]at h9;exact h9)
    have al:Hid ((fT++[(⟨i,wv,T,lo,c⟩:LG)]).map (·.e)=(kK a).take (b+1)):=au (by rw[cZ,B.J,dx,am.J];rfl);clear Y cx eK F;(try go_wp2_with fail);go_roundw;(case rel=>exact⟨b+1,_,_,_,P,by go_num,rfl,by simp[u],an,al⟩);case measure=>simp[intOf];omega
   have k:=n d j ab;have D:=au k;clear j C s n k ab;go_wp2;go_ret;exact⟨_,fT,rfl,(f.J.below (ady _ _ _)).from po,by rw[B.J,D.J,eU]⟩
  have k:b=(kK a).length:=(by have:=FX.J;omega);have D:=au k;clear s n k;go_wp2;go_ret;exact⟨_,fT,rfl,f.J.from po,by rw[B.J,D.J,eU]⟩
