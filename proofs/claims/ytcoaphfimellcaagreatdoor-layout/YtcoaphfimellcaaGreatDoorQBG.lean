import Derived.Test.YtcoaphfimellcaaGreatDoorQBD
import Derived.Test.YtcoaphfimellcaaGreatDoorQBE
import Derived.Test.YtcoaphfimellcaaGreatDoorQBF
set_option maxHeartbeats 0
set_option maxRecDepth 100000
namespace Go.Proofs.YtcoaphfimellcaaGreatDoor
open Go.RowKit
open _root_.Go.Proofs.Tryz
open Option renaming some→σ,none→ν
open Go.IntKind renaming i64→κ
open Go.Ending renaming returned→τ
open Go.Obj renaming cells→ξ
open Go renaming World→ω,Value→υ
open Go.RowKit renaming Below→δ
open Go.Value renaming int→ι,string→θ,slice→ψ,pointer→π,agg→χ
variable{w l:ω}{p:υ}{m v i:Nat}{x:Option Addr}{n:Nat->Prop}
inductive zm where
 | gB (e:Ex) (pl:Nat)
 | mapA (rs:List A8)
 | lA (n:Nat)
 | fJ (pl:Nat)
def lf(cols:List br):zm->(Nat×Nat) ⊕ List br
 |.gB e pl=>if(oF cols e pl).1=0 then .inr cols else .inl (oF cols e pl)
 |.mapA rs=>fU cols rs []
 |.lA _=>.inr cols
 |.fJ pl=>.inl (2,pl)
def oI(cols:List br)(R:List (List aD)):zm->Nat ⊕ List (List aD)
 |.gB e _=>kD (λrow=>cU cols row e) R
 |.mapA rs=>dG (oN cols rs) R
 |.lA n=>.inr (R.take n)
 |.fJ _=>.inr R
def pE:zm->Prop
 |.gB e _=>pz e/\zj e
 |.mapA rs=>rs≠[]/\rs.length<=302/\∀r∈rs,pz r.2.1/\zj r.2.1/\r.1.1.size<=8
 |_=>True
inductive C8 (w:ω):υ->zm->Prop
 | gB (e:Ex) (pl:Nat):C8 w (.iface 261 (χ #[ι κ pl,oL e])) (.gB e pl)
 | mapA (v:υ) (rs:List A8):bu w 4 v rs.length (rs.flatMap Sv)->C8 w (.iface 291 (χ #[v])) (.mapA rs)
 | lA (n:Nat):C8 w (.iface 293 (χ #[ι κ n])) (.lA n)
 | fJ (pl:Nat):C8 w (.iface 295 (χ #[ι κ pl])) (.fJ pl)
theorem C8.below{c:zm}(a:C8 w p c)(f:δ m w l)(e:w.heap.size<=m):C8 l p c:=by
 cases a with
 |gB d b=>exact .gB d b
 |mapA p i a=>exact .mapA p i (bu.below a f e)
 |lA g=>exact .lA g
 |fJ b=>exact .fJ b
def aj1(w w':ω)(O:(Nat×Nat) ⊕ List br)(e:Ending):Prop:=δ w.heap.size w w'/\(∀g,O=.inl g->g.1≠0/\∃a n c,e=τ (.tuple #[ψ a n c,χ #[ι κ g.1,ι κ g.2]]))/\∀l,O=.inr l->∃a n c,e=τ (.tuple #[ψ a n c,χ #[ι κ 0,ι κ 0]])/\ew w' (ψ a n c) l
def U4(M:Nat->Prop)(w w':ω)(nc:List br)(W:Nat ⊕ List (List aD))(r:Ending):Prop:=
 ∃a2 m2 c2 a m c q1 q2,r=τ (.tuple #[χ #[ψ a2 m2 c2,ψ a m c],χ #[ι κ q1,ι κ q2]])/\δ w.heap.size w w'/\nN M w' (ψ a2 m2 c2) nc/\(∃L,L.length=nc.length/\iU M w' (ψ a m c) L)/\(∀p,W=.inl p->q1=9/\q2=(p:Int))/\∀R',W=.inr R'->q1=0/\q2=0/\iU M w' (ψ a m c) (bh nc.length R')
theorem nN.cols{c:Nat->Prop}{a:ω}{b:υ}{cols:List br}(d:nN c a b cols):ew a b cols:=d a (ae _) (λ_ _ _=>rfl)
theorem nN.below{cols:List br}(e:nN n w p cols)(a:δ w.heap.size w l):nN n l p cols:=λW f g=>e W (ag a.size f) (λc b d=>(g c (ai b a.size) d).trans (a.block c b))
theorem iU.below{b:List (List aD)}(f:iU n w p b)(a:δ w.heap.size w l):iU n l p b:=λW g i=>f W (ag a.size g) (λd c e=>(i d (ai c a.size) e).trans (a.block d c))
theorem pF{cols:List br}{q:Nat×Nat}:∀{c:Ex},cH cols c=.inr q->q.1≠0
 |.num _,h=>by cases h
 |.str _,h=>by cases h
 |.bool _,h=>by cases h
 |.junk,h=>by cases h
 |.col s a,h=>by
   simp only[cH]at h;split at h
   . cases h
   . cases h;simp
 |.kG no a x,h=>by
   simp only[cH]at h;split at h
   . rename_i c b;cases h;exact pF b
   . cases h
 |.neg a x,h=>by
   simp only[cH]at h;split at h
   . rename_i c b;cases h;exact pF b
   . split at h
     . cases h
     . cases h;simp
 |.not a x,h=>by
   simp only[cH]at h;split at h
   . rename_i c b;cases h;exact pF b
   . split at h
     . cases h
     . cases h;simp
 |.two op a x y,h=>by
   simp only[cH]at h;split at h
   . rename_i c b;cases h;exact pF b
   . split at h
     . rename_i c d;cases h;exact pF d
     . generalize (if pq op=true then(0:Nat)else 2)=wt at h
       split at h
       . cases h;simp
       . cases h
theorem Af{cols:List br}{q:Nat×Nat}:∀{b:List A8} {a:List br},fU cols b a=.inl q->q.1≠0
 |[],_,h=>by cases h
 |r::b,a,h=>by
   simp only[fU]at h;split at h
   . cases h;simp
   . split at h
     . rename_i d c;cases h;exact pF c
     . exact Af h
theorem MI{cols:List br}{b:Ex}(a:(oF cols b m).1=0):cH cols b=.inl 2/\oF cols b m=(0,0):=by
 unfold oF at a ⊢
 cases hk:cH cols b with
 |inr e=>rw[hk]at a;exact absurd a (pF hk)
 |inl d=>
   rw[hk]at a;simp only at a ⊢;split at a
   . cases a
   . rename_i c
     have:d=2:=Decidable.byContradiction c;subst this;exact⟨rfl,by simp⟩
theorem abv{k:zm}(n:C8 w p k)(o:pE k){cols:List br}(i:ew w (ψ x m v) cols)(t:cols.length<=1000):∃z d f,p=.iface z d/\(∀w,Sem.run prog (method 566 z d "quarry/quarry.over") w=.ok (f,d) w)/\(∀(s:Array υ) (w:ω),Sem.run prog (callFunc f s) w=.ok (.enter f s) w)/\Calls prog f #[d,ψ x m v] w (λl e=>aj1 w e (lf cols k) l):=by
 cases n with
 |gB l y=>
   refine⟨_,_,309,rfl,λw=>by kernel_rfl,call309,(V7 o.1 i t).mono ?_⟩;rintro _ e ⟨rfl,c⟩;refine⟨c,λg a=>?_,λj b=>?_⟩
   . simp only[lf]at a
     split at a
     . cases a
     . rename_i r;cases a;exact⟨r,_,_,_,rfl⟩
   . simp only[lf]at b
     split at b
     . rename_i r;cases b;exact⟨_,_,_,by rw[(MI r).2];rfl,i.below c (ae _)⟩
     . cases b
 |mapA p H C=>
   refine⟨_,_,311,rfl,λw=>by kernel_rfl,call311,(Hy i t C (λd n=>(o.2.2 d n).1) (ag o.2.1 (by decide))).mono ?_⟩;rintro l e ⟨c,A,B⟩;refine⟨c,λg a=>⟨Af a,_,_,_,A g a⟩,λj b=>?_⟩;obtain⟨G,rfl,u⟩:=B j b;obtain⟨E,F,rfl,-,-⟩:=cu u;exact⟨_,_,_,rfl,bu.eY u⟩
 |lA D=>
   refine⟨_,_,314,rfl,λw=>by kernel_rfl,call314,(V6 D x m v w).mono ?_⟩;rintro _ e ⟨rfl,c⟩;exact⟨c,λg a=>(by cases a),λj b=>by cases b;exact⟨_,_,_,rfl,i.below c (ae _)⟩⟩
 |fJ y=>
   refine⟨_,_,316,rfl,λw=>by kernel_rfl,call316,(N0 y x m v w).mono ?_⟩;rintro _ e ⟨rfl,c⟩;exact⟨c,λg a=>by cases a;exact⟨by simp,_,_,_,rfl⟩,λj b=>by cases b⟩
theorem abw{k:zm}(t:C8 w p k)(n:pE k){cols P:List br}{E:Option Addr}{F S:Nat}{j:List (List aD)}{M:Nat->Prop}(z:∀D,M D->D<w.heap.size)(A:nN M w (ψ x m v) cols)(u:0<cols.length)(y:cols.length<=1000)(e:lf cols k=.inr P)(L:iU M w (ψ E i F) (bh cols.length j))(H:j.length<=64)(O:∀b∈j,gI cols b)(I:0<S)(B:S<=64):∃Q b l,p=.iface Q b/\(∀w,Sem.run prog (method 566 Q b "quarry/quarry.work") w=.ok (l,b) w)/\(∀(C:Array υ) (w:ω),Sem.run prog (callFunc l C) w=.ok (.enter l C) w)/\Calls prog l #[b,χ #[ψ x m v,ψ E i F],ι κ S] w (λs r=>U4 M w r P (oI cols j k) s):=by
 have N:=A.cols;have K:=L.batch
 cases t with
 |gB s pl=>
   simp only[lf]at e;split at e
   . rename_i Z
     cases e
     refine⟨_,_,310,rfl,λw=>by kernel_rfl,call310,(Xn n.1 (MI Z).1 N u y K H O I B).mono ?_⟩;rintro _ r ⟨R,m1,T,al,rfl,g,R',a,d⟩;have d:=d M z;refine⟨_,_,_,_,_,_,_,_,rfl,g,A.below g,⟨_,bB _ _,d⟩,λab o=>?_,λf c=>?_⟩
     . unfold vT at a
       simp only[oI]at o;rw[o]at a;simp only at a;exact⟨by rw[a.1];rfl,by rw[a.2]⟩
     . unfold vT at a
       simp only[oI]at c;rw[c]at a;simp only at a;obtain⟨rfl,rfl⟩:=a;exact⟨rfl,rfl,d⟩
   . cases e
 |mapA p rs hr=>
   refine⟨_,_,312,rfl,λw=>by kernel_rfl,call312,(SM N u y hr (λb t=>(n.2.2 b t).1) (jd.mpr n.1) (ag n.2.1 (by decide)) e K H O I B).mono ?_⟩;rintro s r ⟨kv,R,m1,T,q1,q2,rfl,U,⟨ac,ad,rfl⟩,V,G,Y⟩;obtain⟨k1,k2,k3⟩:=Y M z;exact⟨_,_,_,_,_,_,_,_,rfl,U,k1,k2,V,λf c=>⟨(G f c).1,(G f c).2,k3 f c⟩⟩
 |lA aa=>
   cases e
   refine⟨_,_,315,rfl,λw=>by kernel_rfl,call315,(Xr (k:=aa) z L u y x m v S).mono ?_⟩;rintro _ r ⟨a2,m2,c2,rfl,d,g⟩;exact⟨_,_,_,_,_,_,_,_,rfl,g,A.below g,⟨_,bB _ _,d⟩,(λab o=>by cases o),(λf c=>by cases c;exact⟨rfl,rfl,d⟩)⟩
 |fJ pl=>cases e
abbrev mo:=Nat×zm
def uK(w:ω)(v:υ)(ss:List mo):Prop:=∃avs:List υ,avs.length=ss.length/\bu w 2 v ss.length ((ss.zip avs).flatMap λx=>[ι κ x.1.1,x.2])/\∀(i:Nat) (s:mo) (av:υ),ss[i]?=σ s->avs[i]?=σ av->C8 w av s.2
theorem uK.below{c:List mo}(i:uK w p c)(b:δ m w l)(a:w.heap.size<=m):uK l p c:=by obtain⟨g,j,k,n⟩:=i;exact⟨g,j,bu.below k b a,λo r f d e=>(n o r f d e).below b a⟩
theorem uK.get{e:List mo}(s:uK w p e){d:mo}(k:e[m]?=σ d):∃b c j a,p=ψ (σ (Ad b c)) e.length j/\w.cell? (Ad b (c+m*2))=σ (ι κ d.1)/\w.cell? (Ad b (c+m*2+1))=σ a/\C8 w a d.2:=by
 obtain⟨i,A,t,u⟩:=s;have B:=(aj.mp k).1;obtain⟨b,c,j,x,-,-,y⟩:=bu.at t (by omega);obtain⟨a,l⟩:∃a,i[m]?=σ a:=⟨_,af (by omega)⟩;have z:(e.zip i)[m]?=σ (d,a):=by rw[List.getElem?_zip_eq_some];exact⟨k,l⟩
 have o:∀f (n:f<2) (g:υ),([ι κ d.1,a]:List υ)[f]?=σ g->w.cell? (Ad b (c+(m*2+f)))=σ g:=λf n g v=>y _ g (by rw[dy (λr:mo×υ=>[ι κ r.1.1,r.2]) 2 (λ_=>rfl) (e.zip i) z n];exact v);exact⟨b,c,j,a,x,o 0 (by decide) _ rfl,o 1 (by decide) _ rfl,u m d a k l⟩
theorem uK.slice{a:List mo}(d:uK w p a):∃b c,p=ψ b a.length c:=by obtain⟨f,-,e,-⟩:=d;exact bu.slice e
def gC(cols:List br):List mo->Nat×Nat
 |[]=>(0,0)
 |s::l=>match lf cols s.2 with
   |.inl f=>f
   |.inr c=>gC c l
def zn(cols:List br):Prop:=0<cols.length/\cols.length<=302
theorem C9{cols e:List br}{b:zm}(d:pE b)(c:zn cols)(a:lf cols b=.inr e):zn e:=by
 cases b with
 |gB g f=>
   simp only[lf]at a;split at a
   . cases a;exact c
   . cases a
 |mapA j=>
   have:=uJ a;unfold zn;rw[this];exact⟨jd.mpr d.1,d.2.1⟩
 |lA i=>cases a;exact c
 |fJ f=>cases a
theorem K3{a:zm}(b:C8 w p a):∃d c,p=.iface d c:=by cases b<;>exact⟨_,_,rfl⟩
theorem MJ{X:ω}{e x y:υ}{d:TypeId}(b:X.heap[v]?=σ (ξ #[p,e] d (0,0)))(c:δ m w X)(a:m<=v):(((X.setCell (Ad v 0) x).setCell (Ad v 1) y).cell? (Ad v 0)=σ x/\((X.setCell (Ad v 0) x).setCell (Ad v 1) y).cell? (Ad v 1)=σ y)/\δ m w ((X.setCell (Ad v 0) x).setCell (Ad v 1) y):=⟨aR (sP b),(c.setCell a _).setCell a _⟩
theorem Xx{pl tp:Nat}{t:ByteArray}{sv:υ}{a:List mo}{cols:List br}{k:Option Addr}(N:uK w sv a)(hf:∀e∈a,pE e.2)(hl:a.length<=1000)(hc:ew w (ψ k m i) cols)(hn:zn cols) :
 Calls prog 68 #[χ #[ι κ pl,θ t,ι κ tp,sv],ψ k m i] w λZ w'=>Z=τ (χ #[ι κ (gC cols a).1,ι κ (gC cols a).2])/\δ w.heap.size w w':=by
 obtain⟨sa,lL,rfl⟩:=N.slice;obtain⟨W,L⟩:=nm ((w.alloc (Zm pl t tp sa a.length lL)).alloc (gY 0 0));obtain⟨r,x,B⟩:=fX w (Zm pl t tp sa a.length lL) (gY 0 0);rw[<- L]at r x B;obtain⟨x0,x1,x2,x3⟩:=jP B;have aq:=aw B;have ao:=aw x;have HS:=ak (N.below r (ae _));have T:=ak hf;have HC:=ak (hc.below r (ae _));have HW:=ak L;have A:=ak r;have z:=ak x;clear N hf hc L r x B;go_in;go_wp2_with fail;rw[<- HW.J];clear x0 x1 x2 x3;go_loopw[12,1] (λO cv wr=>∃(b:Nat) (g:List br) (k:Option Addr) (m i:Nat),b<=a.length/\O=ι κ b/\cv=ψ k m i/\Hid (ew wr (ψ k m i) g)/\Hid (gC cols a=gC g (a.drop b))/\Hid (zn g)/\Hid (δ W.heap.size W wr)) (λO _ _=>a.length - (intOf O).toNat);case atStart=>exact⟨0,cols,_,_,_,aK _,rfl,rfl,HC,ak rfl,ak hn,ak (ah _ _)⟩
 case round=>
  obtain⟨b,g,k,m,i,hi,rfl,rfl,Y0,C,R,o⟩:=hrel;by_cases v:b<a.length
  .have ju:(b:Int)<a.length:=by omega
   obtain⟨e,n⟩:∃e,a[b]?=σ e:=⟨_,af v⟩;obtain⟨sg,so,Hq,av,M,s0,s1,E⟩:=(HS.J.below o.J (ae _)).get n
   cases M
   obtain⟨te,an,rfl⟩:=K3 E;obtain⟨W2,Q⟩:=nm (wr.alloc (ad2 e.1 (.iface te an)));have u:δ wr.heap.size wr W2:=by rw[Q];exact ld _ _
   obtain⟨ar,r',aa,M,hm,LL,vK⟩:=abv (E.below u (ae _)) (T.J e (aA n)) (Y0.J.below u (ae _)) (ag R.J.2 (by decide))
   cases M
   have je:gC g (a.drop b)=match lf g e.2 with
    |.inl aa=>aa
    |.inr am=>gC am (a.drop (b+1)):=by rw[cA v];rw[af v]at n;cases n;rfl
   have ad:=ak vK;have tD:=ak je;have jl:=ak u;have uz:=ak Q;have al:=ak (T.J e (aA n));clear vK je u Q n E;go_wp2_with fail;rw[<- uz.J];refine ad.J.mono ?_;rintro Z w3 ⟨K,P,F⟩;have s:=o.J.trans ((jl.J.trans (K.mono jl.J.size)).mono o.J.size)
   cases hO:lf g e.2 with
   |inl d=>
     obtain⟨YT,V,n1,Y,rfl⟩:=P d hO;have p:Hid (gC cols a=d):=ak (by rw[C.J,tD.J,hO]);have ap:(((d.1:Nat):Int) != 0)=true:=by simpa using YT
     have nF:=ak s;clear P F hO K s;go_wp2_with fail;refine(JC _ _ _).mono ?_;rintro _ f ⟨rfl,l⟩;have U:f.heap[w3.heap.size]?=σ (gY d.1 d.2):=vA l _ _ (au w3 _);have j:=nF.J.trans ((SJ (ld w3 _) l).mono nF.J.size);have c:=vA j _ _ z.J;obtain⟨q0,q1⟩:=aR U;obtain⟨q2,q3⟩:=aR c;have z2:=eR c 0;have z3:=eR c 1;have D:=ak (MJ (x:=ι κ d.1) (y:=ι κ d.2) c (A.J.trans (j.mono A.J.size)) (bE _));clear l U j c;go_wp2_with fail;obtain⟨⟨G,H⟩,I⟩:=D.J;refine aB (v:=χ #[ι κ d.1,ι κ d.2]) (by simp[results,results68,go_sem,G,H]) rfl ?_;exact⟨by rw[p.J],I⟩
   |inr y=>
     obtain⟨V,n1,Y,rfl,ab⟩:=F y hO;have j:∀f,δ (w3.alloc (gY 0 0)).heap.size (w3.alloc (gY 0 0)) f->δ W.heap.size W f/\ew f (ψ V n1 Y) y:=λf h4=>⟨s.trans ((SJ (ld w3 _) h4).mono s.size),ab.below (SJ (ld w3 _) h4) (ae _)⟩;have zO:=ak j;have p:Hid (gC cols a=gC y (a.drop (b+1))):=ak (by rw[C.J,tD.J,hO]);have ac:=ak (C9 al.J R.J hO);clear P F hO K s j ab;go_wp2_with fail;refine(JC 0 0 _).mono ?_;rintro _ f ⟨rfl,l⟩;obtain⟨k1,k2⟩:=zO.J f l;have z:=ak k1;have Dz:=ak k2;clear l k1 k2;go_wp2_with fail;exact⟨⟨b+1,y,_,_,_,v,by go_num,rfl,Dz,p,ac,z⟩,by simp[intOf];omega⟩
  obtain rfl:b=a.length:=(by omega);have p:Hid (gC cols a=(0,0)):=ak (by rw[C.J,fC];rfl);have c:=vA o.J _ _ z.J;obtain⟨q2,q3⟩:=aR c;have z2:=eR c 0;have z3:=eR c 1;have D:=ak (MJ (x:=ι κ 0) (y:=ι κ 0) c (A.J.trans (o.J.mono A.J.size)) (bE _));clear c;go_wp2_with fail;obtain⟨⟨G,H⟩,I⟩:=D.J;refine aB (v:=χ #[ι κ 0,ι κ 0]) (by simp[results,results68,go_sem,G,H]) rfl ?_;exact⟨by rw[p.J];rfl,I⟩
structure vq (W wr:ω)(cols:List br)(sv:υ)(fg:List J4):Prop where
 row:wr.ownsRow W.heap.size 216 1 sv fg.length (fg.map Io)
 lies:xV wr (E8 fg)
 ok:zo cols W.heap.size wr.heap.size fg
 off:∀x∈fg,∀g,sv.ownBlock=σ g->g<x.lo\/x.a.heap.size<=g
 sX:δ W.heap.size W wr
section
variable {W wr w2 X w3:ω} {cols:List br} {sv:υ} {fg:List J4}
theorem vq.nil(W:ω)(cols:List br):vq W W cols (ψ ν 0 0) []:=⟨⟨rfl,.inl ⟨rfl,rfl⟩⟩,λb a=>by simp[E8]at a,⟨λb a=>(by cases a),λb a=>(by cases a),List.Pairwise.nil,λb a=>(by cases a),λb a=>(by cases a)⟩,λb a=>(by cases a),ah _ _⟩
theorem zo.wider(a:zo cols m v fg)(d:v<=i):zo cols m i fg:=⟨a.work,a.wf,a.ap,a.off,λc b=>by have:=a.low c b;omega⟩
theorem vq.below(a:vq W wr cols sv fg)(b:δ wr.heap.size wr w2):vq W w2 cols sv fg:=
 ⟨cq a.row b,λd c=>⟨vA b _ _ (a.lies d c).1,(a.lies d c).2.below b⟩,a.ok.wider b.size,a.off,SJ a.sX b⟩
theorem vq.more(d:vq W wr cols sv fg){c:Ex}{g cap:Nat}{r:Obj}(x:δ wr.heap.size wr X)(j:aa4 X w2 cols c m p w v)(I:pz c)(o:cH cols c=.inl 2)
 (L:w3.ownsRow W.heap.size 216 1 (ψ (σ ⟨g,0,ν⟩) (fg.length+1) cap) (fg.length+1) (fg.map Io++[π (σ ⟨m,0,ν⟩)])) (k:(w2.alloc r).grownBy w3 sv.ownBlock) (G:sv.ownBlock=σ g\/w2.heap.size+1<=g) :
 vq W w3 cols (ψ (σ ⟨g,0,ν⟩) (fg.length+1) cap) (fg++[⟨m,p,w,v,c⟩]):=by
 have B:=x.trans (j.sX.mono x.size);have s:=ld w2 r;have A:=d.below (SJ B s);have N:(w2.alloc r).heap.size=w2.heap.size+1:=by simp
 have K:=k.size;rw[N]at K;have Y:=aw j.eW;have Q:=j.kept.1;have T:=x.size;have V:=j.low;have Z:=j.new;have P:=j.off;have z:∀b,sv.ownBlock=σ b->b<wr.heap.size:=λb o=>(d.row.lt b o).2;have D:∀(i:K4),xV (w2.alloc r) [i]->(∀b,sv.ownBlock=σ b->b<i.1.lo\/i.1.a.heap.size<=b)->xV w3 [i]:=λi f M y l=>by
  rw[bj]at l;subst l;obtain⟨t,u⟩:=f y (by simp);refine⟨(k.block _ (aw t) (λc=>?_)).trans t,ag u.1 k.size,λb O E=>(k.block b (ai E u.1) (λc=>by have:=M b c.symm;omega)).trans (u.2 b O E)⟩;obtain⟨R,C⟩:=qk A.row c.symm;rw[t]at C
  cases C
 refine⟨?_,λe a=>?_,⟨λe a=>?_,λe a=>?_,?_,λe a i f=>?_,λe a=>?_⟩,λe a b F=>?_,?_⟩;{rw[az,dY];exact L}
 .unfold E8 at a;rw[dY,bP]at a;rcases a with a|a
  {obtain⟨i,f,rfl⟩:=cE.mp a;exact D _ (λy l=>by rw[bj]at l;subst l;exact A.lies _ a) (d.off i f) _ (by simp)};simp at a;subst a;exact D (⟨m,p,w,v,c⟩,(0,0,0)) (λy l=>by rw[bj]at l;subst l;exact⟨vA s _ _ j.eW,j.kept.below s⟩) (λb o=>.inl (by have:=z b o;dsimp only;omega)) _ (by simp)
 {rcases bP.mp a with a|a;{exact d.ok.work e a};rw[bj.mp a];exact j.work};{rcases bP.mp a with a|a;{exact d.ok.wf e a};rw[bj.mp a];exact⟨I,o⟩};{refine jS.mpr ⟨d.ok.ap,jZ _ _,λe a i f=>?_⟩;rw[bj.mp f];have:=(d.ok.low e a).2.1;dsimp only;omega};{rcases bP.mp a with a|a<;>rcases bP.mp f with f|f;{exact d.ok.off e a i f};{rw[bj.mp f];have:=(d.ok.low e a).2.1;dsimp only;omega};{rw[bj.mp a];have:=(d.ok.low i f).2.2;dsimp only;omega};rw[bj.mp a,bj.mp f];exact j.off};{have U:=d.sX.size;rcases bP.mp a with a|a;{have:=d.ok.low e a;omega};rw[bj.mp a];dsimp only;omega}
 .simp[Value.ownBlock]at F;subst F;rcases bP.mp a with a|a
  {rcases G with c|c;{exact d.off e a g c};have:=(d.ok.low e a).2.2;exact .inr (by omega)}
  rw[bj.mp a];dsimp only;rcases G with c|c
  {have:=z g c;exact .inl (by omega)};exact .inr (by omega)
 have n:=SJ d.sX (SJ B s);exact⟨k.os.trans n.os,k.tape.trans n.tape,k.output.trans n.output,ag n.size k.size,λb H=>(k.block b (ai H n.size) (λc=>by have:=(d.row.lt b c.symm).1;omega)).trans (n.block b H)⟩
end
def jQ:List mo->List Ex
 | (_,.gB e _)::l=>e::jQ l
 |_=>[]
theorem U6{cols:List br}:∀{f:List mo},gC cols f=(0,0)->∀(b:Nat) (e:Nat) (c:Ex) (d:Nat),b<(jQ f).length->f[b]?=σ (e,.gB c d)->cH cols c=.inl 2
 |[],_,_,_,_,_,h,_=>by simp[jQ]at h
 | (p,.gB e' f')::l,hc,b,e,c,d,hi,hs=>by
   simp only[gC,lf]at hc;split at hc
   . rename_i k a
     split at a
     . cases a
     . rename_i g;cases a;rw[hc]at g;exact absurd rfl g
   . rename_i j a
     split at a
     . rename_i i
       cases a
       cases b with
       |zero=>cases hs;exact(MI i).1
       |succ b=>exact U6 hc b e c d (by simpa[jQ]using hi) hs
     . cases a
 | (p,.mapA rs)::l,_,_,_,_,_,h,_=>by simp[jQ]at h
 | (p,.lA n)::l,_,_,_,_,_,h,_=>by simp[jQ]at h
 | (p,.fJ n)::l,_,_,_,_,_,h,_=>by simp[jQ]at h
theorem Db:∀{ss:List mo} {i:Nat},i<=(jQ ss).length->(∀d b c,ss[i]?=σ (d,.gB b c)->i<(jQ ss).length/\(jQ ss)[i]?=σ b)/\(∀e,ss[i]?=σ e->(∀b c,e.2≠.gB b c)->i=(jQ ss).length)/\i<=ss.length
 |[],i,hi=>⟨λd b c a=>by simp at a,λe a=>by simp at a,by simpa[jQ]using hi⟩
 | (p,.gB e' f')::l,0,_=>⟨λd b c a=>by cases a;simp[jQ],λe a f=>by cases a;exact absurd rfl (f e' f'),aK _⟩
 | (p,.gB e' f')::l,i+1,hi=>by
   obtain⟨g,j,k⟩:=Db (ss:=l) (i:=i) (by simpa[jQ]using hi);refine⟨λd b c a=>?_,λe a f=>?_,by simpa using k⟩
   . have:=g d b c (by simpa using a)
     simpa[jQ]using this
   . have:=j e (by simpa using a) f
     simpa[jQ]using this
 | (p,.mapA rs)::l,i,hi=>by
   obtain rfl:i=0:=by simpa[jQ]using hi
   exact⟨λd b c a=>(by cases a),λ_ _ _=>rfl,aK _⟩
 | (p,.lA rs)::l,i,hi=>by
   obtain rfl:i=0:=by simpa[jQ]using hi
   exact⟨λd b c a=>(by cases a),λ_ _ _=>rfl,aK _⟩
 | (p,.fJ rs)::l,i,hi=>by
   obtain rfl:i=0:=by simpa[jQ]using hi
   exact⟨λd b c a=>(by cases a),λ_ _ _=>rfl,aK _⟩
theorem abE(a:υ)(b:ω):(Instr.typeAssert (.iface 261 a) 191 261 true).run prog b=.ok (.tuple #[a,.bool true]) b:=by kernel_rfl
theorem XC(b:υ)(a:ω):(Instr.typeAssert (.iface 291 b) 191 261 true).run prog a=.ok (.tuple #[χ #[ι κ 0,.nilIface],.bool false]) a:=by kernel_rfl
theorem abF(b:υ)(a:ω):(Instr.typeAssert (.iface 293 b) 191 261 true).run prog a=.ok (.tuple #[χ #[ι κ 0,.nilIface],.bool false]) a:=by kernel_rfl
theorem Tb(b:υ)(a:ω):(Instr.typeAssert (.iface 295 b) 191 261 true).run prog a=.ok (.tuple #[χ #[ι κ 0,.nilIface],.bool false]) a:=by kernel_rfl
theorem Tryz.abG:(prog.info? 216).map (λa=>(a.zero,a.size,a.bytes))=σ (σ (π ν),1,8):=by kernel_rfl
theorem akc{d:zm}(a:C8 w p d):(∃b c,d=.gB b c/\p=.iface 261 (χ #[ι κ c,oL b]))\/((∀b g,d≠.gB b g)/\∃f e,p=.iface f e/\∀w,(Instr.typeAssert (.iface f e) 191 261 true).run prog w=.ok (.tuple #[χ #[ι κ 0,.nilIface],.bool false]) w):=by
 cases a with
 |gB b c=>exact .inl ⟨b,c,rfl,rfl⟩
 |mapA p j _=>exact .inr ⟨λ_ _ a=>(by cases a),_,_,rfl,XC _⟩
 |lA i=>exact .inr ⟨λ_ _ a=>(by cases a),_,_,rfl,abF _⟩
 |fJ i=>exact .inr ⟨λ_ _ a=>(by cases a),_,_,rfl,Tb _⟩
theorem vq.from{W wr:ω}{cols:List br}{sv:υ}{fg:List J4}(a:vq W wr cols sv fg)(b:δ w.heap.size w W):vq w wr cols sv fg:=
 ⟨eB a.row b.size,a.lies,⟨a.ok.work,a.ok.wf,a.ok.ap,a.ok.off,λd c=>by have:=a.ok.low d c;have:=b.size;omega⟩,a.off,b.trans (a.sX.mono b.size)⟩
theorem FT{e:ω}{pl tp:Nat}{t:ByteArray}{sv:υ}{a:List mo}{cols:List br}{Y:Option Addr}{cm Z:Nat}(H:uK e sv a)(hf:∀d∈a,pE d.2)(hl:a.length<=300)(hc:ew e (ψ Y cm Z) cols)(hn:zn cols)(O:gC cols a=(0,0)) :
 Calls prog 91 #[χ #[ι κ pl,θ t,ι κ tp,sv],ψ Y cm Z] e λc w'=>∃ac fg,c=τ ac/\vq e w' cols ac fg/\fg.map (·.e)=jQ a:=by
 obtain⟨sa,lL,rfl⟩:=H.slice;obtain⟨W,p⟩:=nm (e.alloc (Zm pl t tp sa a.length lL));have v:δ e.heap.size e W:=by rw[p];exact ld _ _
 have M:W.heap[e.heap.size]?=σ (Zm pl t tp sa a.length lL):=by rw[p];exact au e _
 obtain⟨x0,x1,x2,x3⟩:=jP M;have ax:=aw M;obtain⟨j0,Ml,Mn,Mp,Mq⟩:=iC Tryz.abG;have HS:=H.below v (ae _);have HF:=ak hf;have HC:=hc.below v (ae _);have HW:=ak p;have qg:=v;have ad:=ak O;have EX:Hid ((jQ a).length<=a.length):=ak (Db (ae _)).2.2;clear H hf hc p v M O;go_in;go_wp2_with fail;rw[<- HW.J];clear x0 x1 x2 x3;go_loopw[13,5] (λI ov wr=>∃(b:Nat) (x:Option Addr) (n:Nat) (fg:List J4),b<=(jQ a).length/\I=ι κ b/\ov=ψ x b n/\fg.length=b/\Hid (vq W wr cols (ψ x b n) fg)/\Hid (fg.map (·.e)=(jQ a).take b)) (λI _ _=>a.length - (intOf I).toNat);case atStart=>exact⟨0,ν,0,[],aK _,rfl,rfl,rfl,ak (vq.nil W cols),ak rfl⟩
 case round=>
  obtain⟨b,x,n,fg,hi,rfl,rfl,u,f,A⟩:=hrel;obtain⟨r,s,aq⟩:=Db hi;by_cases cL:b<a.length
  .have ju:(b:Int)<a.length:=(by omega);obtain⟨d,j⟩:∃d,a[b]?=σ d:=⟨_,af cL⟩;obtain⟨sg,so,Hq,av,he,s0,s1,B⟩:=(HS.below f.J.sX (ae _)).get j;cases he;rcases akc B with⟨c,g,y,rfl⟩|⟨ab,L,aC,rfl,ar⟩
   .obtain⟨L,x9,-⟩:=pb c;have D:a[b]?=σ (d.1,.gB c g):=(by rw[j,<- y]);obtain⟨P,aa⟩:=r d.1 c g D;have m:=HF.J d (aA j);rw[y]at m;have z:=U6 ad.J b d.1 c g P D;obtain⟨R,K⟩:=nm ((wr.alloc (ad2 d.1 (.iface 261 (χ #[ι κ g,.iface L (qG c)])))).alloc (obL g (.iface L (qG c))));have F:δ wr.heap.size wr R:=(by rw[K];exact aa8 _ _ _)
    have Q:=KT (w:=R) (pl:=g) m.1 z (HC.below (SJ f.J.sX F) (ae _)) (ag hn.2 (by decide));rw[x9]at Q s1;have ta:=abE;have w:=F;have uz:=ak K;have N:=ak (And.intro m.1 z);have am:=ak aa;have ap:W.heap.size<=wr.heap.size:=f.J.sX.size;clear y D m z F K j B r s aa;go_wp2_with fail;rw[<- uz.J];refine Q.mono ?_;rintro _ w3 ⟨i,wv,T,lo,rfl,l⟩;have G:=cq f.J.row (w.trans (l.sX.mono w.size));rw[u]at G;have SD:W.heap.size<=w3.heap.size:=ag ap (ag w.size l.sX.size);have uk:=G.alloc (ξ #[π (σ ⟨i,0,ν⟩)] 216 (0,0));have uj:=ak (World.news_of_block (au w3 (ξ #[π (σ ⟨i,0,ν⟩)] 216 (0,0))));have ao:=l;clear G l;go_wp2_with(at_builtin;refine cJ _ rfl _ _ 207 rfl W.heap.size 216 j0 _ 1 8 underlying207 Ml Mn Mp Mq rfl (by decide) _ _ _ rfl uk ⟨w3.heap.size,0,ν⟩ 1 1 [π (σ ⟨i,0,ν⟩)] rfl rfl uj.J (by simp[Value.oneCell']) (by decide) (by unfold maxLen;omega) (by omega) (by simp;omega) ?_;intro o eZ w4 U V dT);have E:(Value.slice x b n).ownBlock=σ o\/(w3.alloc (ξ #[π (σ ⟨i,0,ν⟩)] 216 (0,0))).heap.size<=o:=dT;rw[rj]at E;have an:Hid (vq W w4 cols (ψ (σ ⟨o,0,ν⟩) (b+1) eZ) (fg++[⟨i,wv,T,lo,c⟩])):=ak (by
     have h9:=f.J.more (g:=o) (cap:=eZ) (w3:=w4) w ao N.J.1 N.J.2 (by rw[u];exact U) V E;rw[u]at h9;exact h9)
    have al:Hid ((fg++[(⟨i,wv,T,lo,c⟩:J4)]).map (·.e)=(jQ a).take (b+1)):=ak (by rw[dY,A.J,de,am.J];rfl);clear U V dT E;(try go_wp2_with fail);go_roundw;(case rel=>exact⟨b+1,_,_,_,P,by go_num,rfl,by simp[u],an,al⟩);case measure=>simp[intOf];omega
   have k:=s d j ab;have C:=ak k;clear j B r s k ab;go_wp2_with fail;go_ret;exact⟨_,fg,rfl,(f.J.below (aa8 _ _ _)).from qg,by rw[A.J,C.J,eV]⟩
  have k:b=(jQ a).length:=(by have:=EX.J;omega);have C:=ak k;clear r s k;go_wp2_with fail;go_ret;exact⟨_,fg,rfl,f.J.from qg,by rw[A.J,C.J,eV]⟩
