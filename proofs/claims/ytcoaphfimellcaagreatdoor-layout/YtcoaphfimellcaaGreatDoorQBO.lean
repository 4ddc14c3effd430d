import Derived.Test.YtcoaphfimellcaaGreatDoorQBN
import Derived.Sort.OwnSortedInts
set_option maxHeartbeats 0
set_option maxRecDepth 100000
namespace Go.Proofs.YtcoaphfimellcaaGreatDoor
open Go.RowKit
open _root_.Go.Proofs.Tryz
open Option renaming some→σ,none→ν
open Go.IntKind renaming i64→κ
open Go.Ending renaming returned→τ
open Go.Obj renaming cells→ξ
open Go renaming World→ω,Value→υ
open Go.RowKit renaming Below→δ
open Go.Value renaming int→ι,string→θ,slice→ψ,pointer→π,agg→χ
variable{w s:ω}{p i t r:υ}{m u k b:Nat}{x:(Nat×Nat) ⊕ List Nat}{v:List Nat}{n:TypeId}{l:Nat->Prop}
section
open Go.Maps
theorem ab9{cols:List br}{s:ByteArray}(a:0<=yg cols s):(yg cols s).toNat<cols.length/\yg cols s=((yg cols s).toNat:Nat):=by
 refine⟨?_,by omega⟩;unfold yg at a ⊢
 cases ha:Lx cols s with
 |none=>rw[ha]at a;simp at a
 |some b=>
   simp only[Int.toNat_natCast];unfold Lx at ha;exact(iD.mp ha).1
theorem aca:∀{l:List Nat},l.Nodup->(∀a∈l,a<m)->l.length<=m:=by
 induction m with
 |zero=>
   intro l _ b
   cases l with
   |nil=>simp
   |cons a n=>exact absurd (b a (by simp)) (by omega)
 |succ m f=>
   intro l d b;by_cases e:m∈l
   . have k:=List.length_erase_of_mem e
     have i:=f (l:=l.erase m) (d.erase m) (λa c=>by
      have j:=(d.mem_erase_iff).mp c;have:=b a j.2;omega)
     omega
   . have i:=f d (λa c=>by
      have:=b a c;have:a≠m:=λg=>e (g ▸ c);omega)
     omega
theorem Lg{cols:List br}:∀{f:List Nm} {a d:List Nat},fy cols f a=.inr d->a.Nodup->(∀b∈a,b<cols.length)->d.length=a.length+f.length/\d.length<=cols.length/\∀b∈d,b<cols.length
 |[],a,d,h,hd,hl=>by
   unfold fy at h
   cases h
   refine⟨by simp,by simpa using aca hd hl,λb c=>hl b (by simpa using c)⟩
 |n::r,a,d,h,hd,hl=>by
   unfold fy at h;split at h
   . cases h
   . rename_i s
     split at h
     . cases h
     . rename_i m
       have i:(yg cols n.1).toNat∉a:=by simpa using m
       have e:=Lg h (by
        rw[List.nodup_append];refine⟨hd,by simp,λo l p g=>?_⟩;simp at g;subst g;exactλj=>i (j ▸ l)) (λb c=>by
        rw[bP,bj]at c;rcases c with c|rfl
        . exact hl b c
        . exact(ab9 (by omega)).1)
       refine⟨?_,e.2.1,e.2.2⟩;have k:=e.1;rw[az,gX]at k;rw[a7];omega
theorem acb(d:List Nat):(d.map (λa:Nat=>(a:Int))).mergeSort (λe f=>decide (e<=f))=(d.mergeSort (λb c=>decide (b<=c))).map (λa:Nat=>(a:Int)):=(List.map_mergeSort (λb _ c _=>by simp)).symm
theorem PD(a:List Nat):(a.map (λb:Nat=>(b:Int))).map (Value.int κ)=a.map mM:=by rw[ig];rfl
theorem MW(j:w.ownsRow m 3 1 p v.length (v.map mM))(z:v.length<=100000)(a:Nat):Calls prog 287 #[p,ι κ a] w λb l=>b=τ (.bool (v.contains a))/\l=w:=by
 obtain⟨g,i,rfl,s,-⟩:=cu j
 cases v with
 |nil=>exact Tryz.slices_Contains_int_empty g i a w
 |cons d c=>
   obtain⟨n,rfl,-⟩:=s (by simp);have u:=bu.eY j;obtain⟨A,B,C,r,-,-,x⟩:=bu.at u (by simp)
   cases r
   refine(Tryz.slices_Contains_int n 0 (d::c).length i ((d::c).map (λy:Nat=>(y:Int))) a w (by simp) (by omega) (λf t=>?_)).mono ?_
   . have k:f<(d::c).length:=by simpa using t
     have o:=x f (mM ((d::c)[f])) (by rw[aV,af k];rfl);rw[o,List.getD_eq_getElem?_getD,aV,af k];rfl
   . rintro b l ⟨rfl,rfl⟩
     refine⟨?_,rfl⟩;congr 2;rw[aI (by simp)];rw[kj,nJ,nJ,cE];constructor
     . rintro⟨g,e,b⟩;rw[<- Int.ofNat.inj b];exact e
     . exactλe=>⟨a,e,rfl⟩
theorem acd(l:w.ownsRow m 3 1 p v.length (v.map mM))(y:0<v.length)(z:v.length<=100000):Calls prog 288 #[p] w λf g=>f=τ (.tuple #[])/\g.ownsRow m 3 1 p v.length ((v.mergeSort (λd e=>decide (d<=e))).map mM)/\w.grownBy g p.ownBlock:=by
 rcases l.2 with⟨-,f⟩|⟨k,j,cur,rfl,u,c,n,o,r,s⟩;{omega};have b:(v.map (λa:Nat=>(a:Int))).length=v.length:=by simp
 have t:=holds_of_blockI (ss:=v.map (λa:Nat=>(a:Int))) c (by rw[b,PD];simpa using s);have i:=Tryz.slices_Sort_int k 0 j (v.map (λa:Nat=>(a:Int))) w t (aw c) (by rw[b];omega);rw[b]at i;refine i.mono ?_;rintro f g ⟨rfl,a,x,rfl⟩;rw[acb];refine⟨rfl,?_,grownBy_sortedI _⟩;have:=ownsRow_sortedI (n:=a) (os:=x) (ss:=v.map (λa:Nat=>(a:Int))) (ts:=(v.mergeSort (λd e=>decide (d<=e))).map (λa:Nat=>(a:Int))) (by simp) u c (by rw[b];exact n) o r;rw[b,PD]at this;exact this
theorem pT{a b c:υ}(d:w.heap[m]?=σ (ξ #[p,i,t,r,a,b,c] n (0,0))) :
 w.cell? ⟨m,0,ν⟩=σ p/\w.cell? ⟨m,1,ν⟩=σ i/\w.cell? ⟨m,2,ν⟩=σ t/\w.cell? ⟨m,3,ν⟩=σ r/\w.cell? ⟨m,4,ν⟩=σ a/\w.cell? ⟨m,5,ν⟩=σ b/\w.cell? ⟨m,6,ν⟩=σ c:=by simp[World.cell?,d]
def uN(w w':ω)(res:(Nat×Nat) ⊕ List Nat)(r:Ending):Prop:=δ w.heap.size w w'/\match res with
 |.inl f=>r=τ (.tuple #[ψ ν 0 0,χ #[ι κ f.1,ι κ f.2]])
 |.inr sh=>∃sv,r=τ (.tuple #[sv,χ #[ι κ 0,ι κ 0]])/\w'.ownsRow w.heap.size 3 1 sv sh.length (sh.map mM)
theorem uN.bad{b:Ending}{a:Nat×Nat}(d:x=.inl a)(c:δ w.heap.size w s)(e:b=τ (.tuple #[ψ ν 0 0,χ #[ι κ a.1,ι κ a.2]])):uN w s x b:=by subst d;exact⟨c,e⟩
theorem PE{size:Nat}{b:List υ}(e:w.ownsRow m n size p k b)(g:u<=m):w.ownsRow u n size p k b:=by rcases e with⟨a,f|⟨d,c,cur,j,i,l⟩⟩;{exact⟨a,.inl f⟩};exact⟨a,.inr ⟨d,c,cur,j,ag g i,l⟩⟩
theorem PG{f:ω}{l k:Nm}{a:List Nm}{O:υ}{B:Nat}{ev cv:υ}{D:TypeId}{y:υ}(a0:ev=.iface D y){cols:List br}(aC:a≠[])(yu:a.length<=302)(hv:bu f 2 O a.length (DK a))(Z:ew f cv cols)(h5:cols.length<=5) :
 Calls prog 286 #[χ #[θ l.1,ι κ l.2,θ k.1,ι κ k.2,O,ι κ B,ev],cv] f λa1 w'=>uN f w' (fy cols a []) a1:=by
 subst a0;obtain⟨E,x,rfl⟩:=bu.slice hv;obtain⟨ca,ij,rfl⟩:=bu.slice Z;obtain⟨e,z⟩:=nm ((f.alloc (obM l.1 l.2 k.1 k.2 E a.length x B (.iface D y))).alloc (gY 0 0));have ia:=vC z;have yZ:e.heap.size=f.heap.size+2:=by rw[z];simp
 have jF:e.heap[f.heap.size]?=σ (obM l.1 l.2 k.1 k.2 E a.length x B (.iface D y))/\e.heap[f.heap.size+1]?=σ (gY 0 0):=(by rw[z];have e2:=au (f.alloc (obM l.1 l.2 k.1 k.2 E a.length x B (.iface D y))) (gY 0 0);rw[show(f.alloc (obM l.1 l.2 k.1 k.2 E a.length x B (.iface D y))).heap.size=f.heap.size+1 by simp]at e2;exact⟨(dZ _ _ (by simp)).trans (au f _),e2⟩)
 have R:=ak (λwr (hb:δ e.heap.size e wr)=>(show δ f.heap.size f wr/\wr.heap[f.heap.size+1]?=σ (gY 0 0)/\bu wr 2 (ψ E a.length x) a.length (DK a)/\ew wr (ψ ca cols.length ij) cols from by
  have Y:=ia.trans (hb.mono (by omega));exact⟨Y,(hb.block _ (by omega)).trans jF.2,bu.below hv Y (ae _),bu.below Z Y (ae _)⟩))
 have HW:=ak z;have W:=jF.1;obtain⟨c0,c1,c2,c3,c4,c5,c6⟩:=pT W;have EO:=aw W;have ao:Hid (δ e.heap.size e e):=ak (ah _ _);have vW:=ak yZ;obtain⟨i0,yG,lC,lI,kQ⟩:=iC Tryz.vP;clear z ia jF W yZ hv Z;go_in;go_wp2_with fail;rw[<- HW.J];clear c0 c1 c2 c3 c4 c5 c6;go_loopw[6,13] (λO b wr=>∃(d:Nat) (c:List Nat),d<=a.length/\Hid (c.length=d)/\b=ι κ d/\Hid (fy cols a []=fy cols (a.drop d) c)/\Hid (wr.ownsRow e.heap.size 3 1 O c.length (c.map mM))/\Hid (δ e.heap.size e wr)) (λ_ b _=>a.length - (intOf b).toNat);case atStart=>exact⟨0,[],aK _,ak rfl,rfl,ak rfl,ak ⟨rfl,.inl ⟨rfl,rfl⟩⟩,ao⟩
 case round=>
  obtain⟨d,c,hi,r,rfl,Xo,T,C⟩:=hrel;obtain⟨lM,n,U,Q⟩:=R.J wr C.J;by_cases cL:d<a.length
  .have ju:(d:Int)<a.length:=(by omega);obtain⟨b,M⟩:∃b,a[d]?=σ b:=⟨_,af cL⟩;have RF:a.drop d=b::a.drop (d+1):=(by rw[cA cL];congr 1;exact(aj.mp M).2);have t:Hid (fy cols a []=if yg cols b.1<0 then .inl (5,b.2)else if c.contains (yg cols b.1).toNat then .inl (6,b.2)else fy cols (a.drop (d+1)) (c++[(yg cols b.1).toNat])):=ak (by rw[Xo.J,RF];rfl);obtain⟨vg,vo,xW,he,-,a3,hx⟩:=bu.at U (by omega);cases he;have x0:wr.cell? ⟨vg,vo+d*2,ν⟩=σ (θ b.1):=hx (d*2) _ (dy Cm 2 (λ_=>rfl) a M (j:=0) (by decide));have x1:wr.cell? ⟨vg,vo+d*2+1,ν⟩=σ (ι κ b.2):=hx (d*2+1) _ (dy Cm 2 (λ_=>rfl) a M (j:=1) (by decide));obtain⟨W1,N⟩:=nm (wr.alloc (obU b.1 b.2));have L:=oJ N;have mq:W1.heap[wr.heap.size]?=σ (obU b.1 b.2):=(by rw[N];exact au wr _);have o:=T.J;obtain⟨ka,X,rfl,-,-⟩:=cu o;have XY:=cq o L;have ap:=ak (Cj cols (ψ ca cols.length ij) b.1 W1 (bu.below Q L (ae _)) (by omega));have Qq:=ak XY;have qW:=ak mq;have IL:=ak (C.J.trans (L.mono C.J.size));have B6:=ak N;clear lM n U Q hx N L mq o XY M RF;go_wp2_with fail;rw[<- B6.J];refine ap.J.mono ?_;rintro am P ⟨rfl,n⟩;have np:=(n.block _ (aw qW.J)).trans qW.J;obtain⟨k0,k1⟩:=bq np;have p:=IL.J.trans (n.mono IL.J.size);have ZM:=p.size;have xQ:=ak (cq Qq.J n);have D7:=aw np;obtain⟨s,i,-,-⟩:=R.J P p;obtain⟨f0,f1⟩:=bq i;have z0:=eR i 0;have z1:=eR i 1;have H:=ak i;have I:=ak s;have IQ:=ak p;clear n np p s i x0 x1;by_cases V:yg cols b.1<0;{have G:Hid (fy cols a []=.inl (5,b.2)):=ak (by rw[t.J,aF V]);go_wp2_with fail;go_region;all_goals (try go_wp2_with fail);obtain⟨⟨u,v⟩,w⟩:=gE I.J (bE _) H.J (ι κ 5) (ι κ b.2);refine aB (by simp[results,results286,go_sem,u,v];rfl) rfl ?_;exact uN.bad G.J (aH w) rfl}
   obtain⟨aa,ab⟩:=ab9 (cols:=cols) (s:=b.1) (by omega);obtain⟨g,K⟩:=nm ((yg cols b.1).toNat);rw[<- K]at aa ab;have HJ:Hid (g=(yg cols b.1).toNat):=ak K;have aq:=ak (show c.length<=100000 from by rw[r.J];omega);have an:=ak (MW xQ.J aq.J g);have a2:=ak aa;rw[aE V]at t;rw[ab]at V ⊢;rw[<- K]at t;clear K ab aa;go_wp2_with fail;refine an.J.mono ?_;rintro am F ⟨rfl,rfl⟩;by_cases A:c.contains g=true;{have G:Hid (fy cols a []=.inl (6,b.2)):=ak (by rw[t.J,aF A]);rw[A];go_wp2_with fail;go_region;all_goals (try go_wp2_with fail);obtain⟨⟨u,v⟩,w⟩:=gE I.J (bE _) H.J (ι κ 6) (ι κ b.2);refine aB (by simp[results,results286,go_sem,u,v];rfl) rfl ?_;exact uN.bad G.J (aH w) rfl}
   have ac:Hid (fy cols a []=fy cols (a.drop (d+1)) (c++[g])):=ak (by rw[t.J,aE A])
   simp only[Bool.not_eq_true]at A;rw[A];have yn:=ak (xQ.J.alloc (ξ #[ι κ g] 3));have uj:=ak (World.news_of_block (w:=F.alloc (ξ #[ι κ g] 3)) (B:=F.heap.size) (au F (ξ #[ι κ g] 3)));have Wm:Hid (c.length+1<=maxLen):=ak (by rw[r.J];unfold maxLen;omega);have OZ:Hid ((c.length+1)*8<=140737488355328):=ak (by rw[r.J];omega);have Jk:Hid (e.heap.size<=(F.alloc (ξ #[ι κ g] 3)).heap.size):=ak (by simp;omega);go_wp2_with(at_builtin;refine qC _ rfl _ _ 36 rfl e.heap.size 3 i0 _ 1 8 underlying36 yG lC lI kQ rfl (by decide) (ψ ka c.length X) c.length (c.map mM) rfl yn.J ⟨F.heap.size,0,ν⟩ 1 1 [mM g] rfl rfl uj.J (by simp[mM,Value.oneCell']) Wm.J OZ.J Jk.J ?_);intro v' w4 oG j9 _;have uk:Hid (w4.ownsRow e.heap.size 3 1 v' (c++[g]).length ((c++[g]).map mM)):=ak (by rw[az,dY];exact oG);have nF:Hid (δ e.heap.size e w4):=ak (((IQ.J.alloc ZM _)).grown j9 Jk.J (λj m=>(yn.J.lt j m).1));have ad:Hid ((c++[g]).length=d+1):=ak (by rw[az,r.J];rfl);clear oG j9;go_wp2_with fail
   first
   |exact⟨⟨d+1,_,by omega,ad,by go_num,ac,uk,nF⟩,by simp[intOf];omega⟩
   | (go_roundw
      case rel=>exact⟨d+1,_,by omega,ad,by go_num,ac,uk,nF⟩
      case measure=>simp[intOf];omega)
  obtain rfl:d=a.length:=by omega
  have G:Hid (fy cols a []=.inr (c.mergeSort (λav ax=>decide (av<=ax)))):=ak (by rw[Xo.J,fC];rfl);have o:=T.J;obtain⟨ka,X,rfl,-,-⟩:=cu o;have h0:0<c.length:=by rw[r.J];exact jd.mpr aC
  have ar:=ak (acd o h0 (by rw[r.J];omega));clear lM n U Q o h0;go_wp2_with fail;refine ar.J.mono ?_;rintro am P ⟨rfl,bS,kC⟩;have p:δ e.heap.size e P:=C.J.grown kC C.J.size (λj m=>(T.J.lt j m).1);obtain⟨s,i,-,-⟩:=R.J P p;obtain⟨f0,f1⟩:=bq i;have z0:=eR i 0;have z1:=eR i 1;have H:=ak i;have I:=ak s;have al:=ak bS;clear s i bS kC p;go_wp2_with fail;obtain⟨⟨u,v⟩,w⟩:=gE I.J (bE _) H.J (ι κ 0) (ι κ 0);refine aB (by simp[results,results286,go_sem,u,v];rfl) rfl ?_;rw[G.J];refine⟨w,_,rfl,?_⟩;rw[List.length_mergeSort];have fE:∀j,(Value.slice ka c.length X).ownBlock=σ j->j≠f.heap.size+1:=λj m=>by
   have:=(al.J.lt j m).1;rw[vW.J]at this;omega
  exact PE (eJ al.J (λj m=>(ay _ _ _ _ (fE j m)).trans (ay _ _ _ _ (fE j m)))) (by rw[vW.J];omega)
theorem XZ{K:sE}{f wc d:ω}{mt:Nat}{F:List (Lit×gD)}{z:List (Lit×ot)}(D:cQ K w m mt u l F z){B o:ByteArray}(hu:B.size<=8)(ht:o.size<=8){A:gD}(T:(tk o,A)∈F){c:Ex}
 (x:δ w.heap.size w s) (n:δ s.heap.size s f) (j:f.grownBy wc (σ u)) (ab:w.heap.size+1<s.heap.size)  (y:d=(wc.setCell ⟨w.heap.size+1,0,ν⟩ t).setCell ⟨w.heap.size+1,1,ν⟩ r) (G:s.ownsRow b 3 1 p v.length (v.map mM)) (uw:w.heap.size+1<b) (nR:s.heap.size<=k)
 (N:dJ f k i (gI A.cols) (λrow=>cU A.cols row c)) (W:lz wc 198 u (qt (fS ot.val z) (gk B o) (χ #[p,i]))) (O:(pW z (gk B o)).length<8) (vH:abX A.cols (v,c)) {L:(Nat×Nat)×pG} (M:L=((0,0),⟨fS gD.told F,qt (fS ot.told z) (gk B o) (v,c)⟩)) :
 lg K w d m mt u l F L (τ (χ #[ι κ 0,ι κ 0])):=by
 have ac:=D.Bf.lt;have aa:=n.size;have R:w.heap.size+1≠u:=by omega
 have am:d.heap.size=wc.heap.size:=by rw[y];simp[World.setCell]
 have C:∀a,a≠w.heap.size+1->d.heap[a]?=wc.heap[a]?:=λa e=>by rw[y];exact(ay _ _ _ _ e).trans (ay _ _ _ _ e)
 have ad:=x.size;have al:=j.size;have V:aX (λa=>a<w.heap.size/\a≠u) w d:=⟨by rw[y];exact j.os.trans (n.os.trans x.os),by rw[y];exact j.tape.trans (n.tape.trans x.tape),by rw[y];exact j.output.trans (n.output.trans x.output),by omega,λa e=>(C a (by have:=e.1;omega)).trans ((j.block a (by have:=e.1;omega) (λc=>e.2 (bf c))).trans ((n.block a (by have:=e.1;omega)).trans (x.block a e.1)))⟩;have Z:=eJ (w2:=d) G (λg X=>by
  have E:=G.lt g X;exact(C g (by omega)).trans ((j.block g (by omega) (λc=>by have:=bf c;omega)).trans (n.block g E.2)))
 have Q:lz d 198 u (fS ot.val (qt z (gk B o) ⟨p,i,v,c,f,k⟩)):=(by rw[<- zr];exact W.kept (C u (λc=>R c.symm)));have yh:XJ d l A.cols ⟨p,i,v,c,f,k⟩:=
  { shr:=bu.eY Z
    shn:=λH n' U hv Y=>by
     have P:p=ψ (σ H) n' U:=hv;have E:=G.lt H.block (by rw[P];rfl);have I:=D.oS _ Y;omega
    work:=N
    kept:=(show ft k f.heap.size f d from⟨by omega,λg E I=>(C g (by omega)).trans (j.block g I (λc=>by have:=bf c;omega))⟩)
    away:=λa (E:k<=a) _ hX=>by have:=D.oS _ hX;omega
    fit:=vH }
 rw[M];exact D.granted hu ht T (g:=⟨p,i,v,c,f,k⟩) Q V O yh rfl
theorem Fi{cols:List br}:∀{c:List Nm} {b:List Nat} {a:Nat×Nat},fy cols c b=.inl a->a.1≠0
 |[],b,a,h=>by unfold fy at h;cases h
 |n::r,b,a,h=>by
   unfold fy at h;split at h
   . cases h;simp
   . split at h
     . cases h;simp
     . exact Fi h
theorem aci{cols:List br}{a:Ex}(b:(oF cols a m).1≠0){f:Type}(st:f)(g:(Nat×Nat)×f):(match cH cols a with|.inr d=>(d,st)|.inl c=>if c≠2 then((7,m),st)else g)=(oF cols a m,st):=by
 unfold oF at b ⊢
 cases hk:cH cols a with
 |inr d=>rfl
 |inl c=>
   rw[hk]at b;by_cases e:c=2
   . simp[e]at b
   . simp[e]
theorem X8{cols:List br}{e:Ex}{pl:Nat}(a:(oF cols e pl).1=0):cH cols e=.inl 2:=by
 unfold oF at a
 cases hk:cH cols e with
 |inr d=>rw[hk]at a;exact absurd a (NS cols e hk).1
 |inl c=>
   rw[hk]at a;by_cases b:c=2
   . rw[b]
   . simp[b]at a
theorem X9{c:Type}{a:List (Lit×c)}{b:Lit}{d:c}(e:(b,d)∈a)(f:WideAt.IsKeyLit b):(pW a b).length<a.length:=by unfold pW;rw[List.length_filter_lt_length_iff_exists];exact⟨_,e,by simp[WideAt.sameKey_self f]⟩
theorem uN.gen{j:Ending}(l:uN w s x j):∃d i c,∃b:Nat×Nat,j=τ (.tuple #[ψ d i c,χ #[ι κ b.1,ι κ b.2]])/\(x=.inl b\/∃a,x=.inr a/\b=(0,0)/\s.ownsRow w.heap.size 3 1 (ψ d i c) a.length (a.map mM))/\δ w.heap.size w s:=by
 obtain⟨e,f⟩:=l
 cases x with
 |inl k=>exact⟨ν,0,0,k,f,.inl rfl,e⟩
 |inr a=>
   obtain⟨m,rfl,g⟩:=f;obtain⟨d,c,rfl,-,-⟩:=cu g;exact⟨d,a.length,c,(0,0),rfl,.inr ⟨a,rfl,rfl,g⟩,e⟩
theorem Ya{bl:sE}{k:ω}{al mt mg:Nat}{a8:Nat->Prop}{r:List (Lit×gD)}{c:List (Lit×ot)}(h:cQ bl k al mt mg a8 r c){b a:Nm}(hu:nw b)(ht:nw a){i:List Nm}(cd:i≠[])(yu:i.length<=302){ab:υ}(hv:bu k 2 ab i.length (DK i)){d:Ex}(Cv:pz d){o:Nat} :
 Calls prog 285 #[χ #[θ b.1,ι κ b.2,θ a.1,ι κ a.2,ab,ι κ o,oL d],π (σ ⟨al,0,ν⟩)] k λaa w'=>lg bl k w' al mt mg a8 r (vt (cO r c) b a i d o) aa:=by
 have Vd:(8:Nat)<=maxLen:=by unfold maxLen;omega
 have bg:=ag hu.1 Vd;have Gl:=ag ht.1 Vd;obtain⟨D,x9,-,-⟩:=pb d;obtain⟨va,Z,rfl⟩:=bu.slice hv;rw[x9];obtain⟨w,hW⟩:=nm ((k.alloc (obM b.1 b.2 a.1 a.2 va i.length Z o (.iface D (qG d)))).alloc (gY 0 0));have ia:=vC hW;have yZ:w.heap.size=k.heap.size+2:=by rw[hW];simp
 have jF:w.heap[k.heap.size]?=σ (obM b.1 b.2 a.1 a.2 va i.length Z o (.iface D (qG d)))/\w.heap[k.heap.size+1]?=σ (gY 0 0):=by
  rw[hW];have e2:=au (k.alloc (obM b.1 b.2 a.1 a.2 va i.length Z o (.iface D (qG d)))) (gY 0 0);rw[show(k.alloc (obM b.1 b.2 a.1 a.2 va i.length Z o (.iface D (qG d)))).heap.size=k.heap.size+1 by simp]at e2;exact⟨(dZ _ _ (by simp)).trans (au k _),e2⟩
 have F:=ak (λwr (j:δ w.heap.size w wr)=>(show cQ bl wr al mt mg a8 r c/\δ k.heap.size k wr/\wr.heap[k.heap.size]?=σ (obM b.1 b.2 a.1 a.2 va i.length Z o (.iface D (qG d)))/\wr.heap[k.heap.size+1]?=σ (gY 0 0)/\bu wr 2 (ψ va i.length Z) i.length (DK i)from by
  have g:=ia.trans (j.mono (by omega));exact⟨h.below g,g,(j.block _ (by omega)).trans jF.1,(j.block _ (by omega)).trans jF.2,bu.below hv g (ae _)⟩))
 have HW:=ak hW;obtain⟨hS,-,cx,s,-⟩:=F.J w (ah _ _);obtain⟨H,I,K,L,M,N,O⟩:=pT cx;obtain⟨f0,f1⟩:=bq s;have z0:=eR s 0;have z1:=eR s 1;obtain⟨e0,e1,e2,e3,e4,e5,e6,e7⟩:=eE hS.eW;have e8:=aw hS.eW;have EO:=aw cx;have yo:=aw s;have MV:=hS.find Gl;have qh:=(hS.below (aH (ah _ _))).find Gl;have HH:=ak h;have jl:=ak s;have qg:=ak ia
 cases hg:eU r (tk a.1)with
 |none=>
   simp only[hg]at MV qh;have zg:Hid (vt (cO r c) b a i d o=((5,a.2),cO r c)):=ak (by unfold vt cO;simp only;rw[gU,hg];rfl);clear h hW ia jF hS cx s hg yZ hv;go_in;go_wp2_with fail;rw[<- HW.J];go_region
   all_goals
    (try go_wp2_with fail)
    obtain⟨⟨P,Q⟩,d2⟩:=gE (w1:=w) qg.J (bE _) jl.J (ι κ 5) (ι κ a.2);refine aB (rT results285 rfl P Q) rfl ?_;rw[zg.J];exact HH.J.same (aH d2) (5,a.2) rfl
 |some e=>
   simp only[hg]at MV qh;unfold gD.val at MV qh;have XP:(tk a.1,e)∈r:=by
    have g:=mG hg;exact g
   have Yb:=hS.tab _ XP;obtain⟨ca,ij,Nl⟩:=Yb.Ji.slice;have cN:=ak Nl;have HT:=ak (λwr (j:δ w.heap.size w wr)=>(show wr.heap[e.q]?=σ (ξ #[ψ ca e.cols.length ij,e.sv,ι κ e.Cs.flatten.length] 205 (0,0))/\ew wr (ψ ca e.cols.length ij) e.cols from by
    have g:=(F.J wr j).1.tab _ XP;rw[<- cN.J];exact⟨g.eW,g.Ji⟩))
   have h5:e.cols.length<=5:=Yb.Et.1;have co:=ak XP;obtain⟨f,qM⟩:=nm w.drew;have Pj:Hid (δ w.heap.size w f):=ak (by rw[qM];exact aH (ah _ _));have b1:=ak (λwr (j:δ f.heap.size f wr)=>(show Calls prog 286 #[χ #[θ b.1,ι κ b.2,θ a.1,ι κ a.2,ψ va i.length Z,ι κ o,.iface D (qG d)],ψ ca e.cols.length ij] wr (λaa w'=>uN wr w' (fy e.cols i []) aa)from by
    have yj:=Pj.J.trans (j.mono Pj.J.size);exact PG rfl cd yu (F.J wr yj).2.2.2.2 (HT.J wr yj).2 h5))
   have aC:(f.alloc (gY 0 0)).drew.heap.size=f.heap.size+1:=by show(f.heap.push _).size=_;rw[dM]
   have Fj:=ak (λu (j:δ (f.alloc (gY 0 0)).drew.heap.size (f.alloc (gY 0 0)).drew u)=>(show u.heap[f.heap.size]?=σ (gY 0 0)/\δ f.heap.size f u from
    ⟨(j.block f.heap.size (by omega)).trans (au f (gY 0 0)),(aH ((ah f.heap.size f).alloc (ae _) _)).trans (j.mono (by omega))⟩))
   have a6:=ak aC;have Y:Hid (vt (cO r c) b a i d o=match fy e.cols i []with|.inl ba=>(ba,cO r c)|.inr p=>match cH e.cols d with|.inr ba=>(ba,cO r c)|.inl T=>if T≠2 then((7,o),cO r c)else if(eU (fS ot.told c) (gk b.1 a.1)).isNone/\8<=(fS ot.told c).length then((8,0),cO r c)else((0,0),⟨fS gD.told r,qt (fS ot.told c) (gk b.1 a.1) (p,d)⟩)):=ak (by
    unfold vt cO;simp only;rw[gU,hg];rfl)
   obtain⟨FF,DY⟩:=HT.J w (ah _ _);obtain⟨U,V,W⟩:=aY FF;have Je:=aw FF;have uz:=ak qM;obtain⟨Az,-,SN,-,-⟩:=F.J f Pj.J;obtain⟨b8,-⟩:=HT.J f Pj.J;have C2:=ak (pT SN);have Q2:=ak (aY b8);have Au:=Pj.J.size;clear h hW ia jF hS cx s hg yZ hv Yb Nl FF DY XP aC qM Az SN b8;go_in;go_wp2_with fail;rw[<- HW.J]
   go_cut[5]from 12 to 25 (λs5 v=>s5=π (σ ⟨e.q,0,ν⟩)/\f=v)
   case first=>
    go_region
    all_goals(try go_wp2_with fail)
    all_goals go_meet
    all_goals exact⟨rfl,uz.J⟩
   case rest=>
    obtain⟨rfl,rfl⟩:=hcut;clear MV qh H I K L M N O f0 f1 z0 z1 e0 e1 e2 e3 e4 e5 e6 e7 U V W uz;obtain⟨H,I,K,L,M,N,O⟩:=C2.J;obtain⟨U,V,W⟩:=Q2.J;have ea:k.heap.size<f.heap.size:=by omega
    have et:e.q<f.heap.size:=by omega
    go_wp2_with fail
    go_cut[6,7]from 26 to 34 (λs6 s7 v=>∃B C A,∃n:Nat×Nat,∃b9,s6=ψ B C A/\s7=π (σ ⟨b9,0,ν⟩)/\Hid (v.heap[b9]?=σ (gY n.1 n.2)/\(fy e.cols i []=.inl n\/∃p,fy e.cols i []=.inr p/\n=(0,0)/\v.ownsRow f.heap.size 3 1 (ψ B C A) p.length (p.map mM))/\δ f.heap.size f v))
    case first=>
     go_region_law(refine ie rfl 286 _ _ rfl call286 #[χ #[θ b.1,ι κ b.2,θ a.1,ι κ a.2,ψ va i.length Z,ι κ o,.iface D (qG d)],ψ ca e.cols.length ij] (by first|(simp[Act.eval];done)|(simp[Act.eval,Act.put];done)|rfl) _ (b1.J _ (by first|exact aH (ah _ _)|exact aH ((ah _ _).alloc (ae _) _))) ?_;rintro e' u lZ;obtain⟨B,C,A,n,rfl,R,s⟩:=lZ.gen;refine⟨_,rfl,?_⟩;clear lZ;(first|(have G:=(Fj.J u s).1;obtain⟨a0,a1⟩:=bq G;have ga:=λbi=>eR G bi;have a5:=ak G;clear G)|skip);have IQ:Hid (δ f.heap.size f u):=ak (by first|exact(aH (ah _ _)).trans s|exact(Fj.J u s).2);have b2:=ak R;clear R s)
     all_goals(try go_wp2_with fail)
     all_goals go_meet
     all_goals
      first
      |exact⟨B,C,A,n,_,rfl,rfl,ak ⟨au _ _,b2.J.imp id (λ⟨p,g,y,h3⟩=>⟨p,g,y,cq h3 ((ah _ _).alloc (ae _) _)⟩),IQ.J.alloc IQ.J.size _⟩⟩
      |exact⟨B,C,A,n,_,rfl,rfl,ak ⟨aN _ _ 1 _ _ _ (aN _ _ 0 _ _ _ a5.J),b2.J.imp id (λ⟨p,g,y,h3⟩=>⟨p,g,y,by
         have fE:∀T,(Value.slice B C A).ownBlock=σ T->T≠f.heap.size:=λT hk=>by
          have:=(h3.lt T hk).1;rw[a6.J]at this;omega
         exact PE (eJ h3 (λT hk=>(ay _ _ _ _ (fE T hk)).trans (ay _ _ _ _ (fE T hk)))) (by rw[a6.J];omega)⟩),(IQ.J.setCell (ae _) _).setCell (ae _) _⟩⟩
    case rest=>
     obtain⟨B,C,A,n,b9,rfl,rfl,H9⟩:=hcut;clear H I K L M N O U V W b1 Fj a6;obtain⟨Nr,R,Yc⟩:=H9.J;obtain⟨o0,o1⟩:=bq Nr;have TA:=ak (ry n.1 n.2 wc);have cS:=aw Nr;clear Nr Yc R;go_wp2_with fail;refine TA.J.mono ?_;rintro aa l ⟨rfl,fI⟩;obtain⟨Nr,R,Yc⟩:=H9.J;have yB:=(fI.block _ cS).trans Nr;obtain⟨g0,g1⟩:=bq yB;have nB:=Pj.J.trans ((Yc.trans (fI.mono Yc.size)).mono Pj.J.size);obtain⟨Ga,vS,ar,E1,-⟩:=F.J l nB;obtain⟨LQ,Sy⟩:=HT.J l nB;obtain⟨f0,f1⟩:=bq E1;have z0:=eR E1 0;have z1:=eR E1 1;have es:=aw E1;have ce:=ak E1;have cl:=ak vS;have nF:=ak nB;by_cases ao:n.1=0
     . obtain⟨p,yv,d3,bS⟩:∃p,fy e.cols i []=.inr p/\n=(0,0)/\wc.ownsRow f.heap.size 3 1 (ψ B C A) p.length (p.map mM):=by
        rcases R with g|g
        . exact absurd ao (Fi g)
        . exact g
       have z:decide (n.1≠0)=false:=by simp[ao]
       rw[z];have c8:=ak (cq bS fI);have dl:=ak (ag Yc.size fI.size);have JD:=ak (Lg yv List.nodup_nil (by simp));rw[yv]at Y;have Xo:=ak (λwr (j:δ l.heap.size l wr)=>AW (w:=wr) (e:=d) (pl:=o) Cv (bu.below Sy j (ae _)) (ag h5 (by decide)));rw[x9]at Xo;obtain⟨x,hG⟩:=nm (oF e.cols d o);rw[<- hG]at Xo;have HG:=ak hG;obtain⟨H,I,K,L,M,N,O⟩:=pT ar;obtain⟨U,V,W⟩:=aY LQ;have eQ:=aw ar;have Z6:=aw LQ;have aC:(l.alloc (gY 0 0)).drew.heap.size=l.heap.size+1:=by show(l.heap.push _).size=_;rw[dM]
       have Fj:=ak (λu (j:δ (l.alloc (gY 0 0)).drew.heap.size (l.alloc (gY 0 0)).drew u)=>(show u.heap[l.heap.size]?=σ (gY 0 0)/\δ l.heap.size l u from
        ⟨(j.block l.heap.size (by omega)).trans (au l (gY 0 0)),(aH ((ah l.heap.size l).alloc (ae _) _)).trans (j.mono (by omega))⟩))
       clear Nr R Yc fI yB nB Ga vS ar E1 LQ Sy g0 g1 f0 f1 z0 z1 z bS yv d3 hG aC o0 o1;go_wp2_with fail
       go_cut[8]from 35 to 54 (λs8 v=>∃b9,s8=π (σ ⟨b9,0,ν⟩)/\Hid (v.heap[b9]?=σ (gY x.1 x.2)/\δ l.heap.size l v))
       case first=>
        go_region_law(refine ie rfl 284 _ _ rfl call284 #[χ #[ι κ o,.iface D (qG d)],ψ ca e.cols.length ij] (by first|(simp[Act.eval];done)|(simp[Act.eval,Act.put];done)|rfl) _ (Xo.J _ (by first|exact aH (ah _ _)|exact aH ((ah _ _).alloc (ae _) _))) ?_;rintro e' u ⟨rfl,s⟩;refine⟨_,rfl,?_⟩;(first|(have G:=(Fj.J u s).1;obtain⟨a0,a1⟩:=bq G;have ga:=λbi=>eR G bi;have a5:=ak G;clear G)|skip);have IQ:Hid (δ l.heap.size l u):=ak (by first|exact(aH (ah _ _)).trans s|exact(Fj.J u s).2);clear s)
        all_goals(try go_wp2_with fail)
        all_goals go_meet
        all_goals
         first
         |exact⟨_,rfl,ak ⟨au _ _,IQ.J.alloc IQ.J.size _⟩⟩
         |exact⟨_,rfl,ak ⟨aN _ _ 1 _ _ _ (aN _ _ 0 _ _ _ a5.J),(IQ.J.setCell (ae _) _).setCell (ae _) _⟩⟩
       case rest=>
        obtain⟨Ah,rfl,bm⟩:=hcut;clear H I K L M N O U V W Xo Fj H9 TA;obtain⟨TC,Yd⟩:=bm.J;obtain⟨o0,o1⟩:=bq TC;have TA:=ak (ry x.1 x.2 wc);have c9:=aw TC;clear TC Yd;go_wp2_with fail;refine TA.J.mono ?_;rintro aa w5 ⟨rfl,x8⟩;obtain⟨TC,Yd⟩:=bm.J;have Fa:=(x8.block _ c9).trans TC;obtain⟨g0,g1⟩:=bq Fa;have am:=Yd.trans (x8.mono Yd.size);have AG:=nF.J.trans (am.mono nF.J.size);obtain⟨WQ,a9,av,zq,-⟩:=F.J w5 AG;obtain⟨Zh,cb⟩:=HT.J w5 AG;obtain⟨f0,f1⟩:=bq zq;have z0:=eR zq 0;have z1:=eR zq 1;have eb:=aw zq;have cf:=ak zq;have cm:=ak a9;have yk:=ak AG;have db:=ak (cq c8.J am);have dn:=ak (ag dl.J am.size);by_cases ap:x.1=0
        . have z:decide (x.1≠0)=false:=by simp[ap]
          rw[z];have FB:=ak (X8 (cols:=e.cols) (e:=d) (pl:=o) (by rw[<- HG.J];exact ap));rw[FB.J]at Y;obtain⟨H,I,K,L,M,N,O⟩:=pT av;obtain⟨U,V,W⟩:=aY Zh;obtain⟨e0,e1,e2,e3,e4,e5,e6,e7⟩:=eE WQ.eW;have eZ:=aw av;have ed:=aw Zh;have ex:=aw WQ.eW;obtain⟨W6,Vi⟩:=nm (w5.alloc (obX b.1 a.1));have Ng:=oJ Vi;have Jo:W6.heap[w5.heap.size]?=σ (obX b.1 a.1):=by rw[Vi];exact au w5 _
          have JX:=yk.J.trans (Ng.mono yk.J.size);have FD:=ak JX;have cp:=ak Vi;have dd:=ak (cq db.J Ng);have ds:=ak Ng.size;obtain⟨V3,-⟩:=F.J W6 JX;have QI:=(V3.below (aH (ah _ _))).Le bg Gl;have QJ:=(V3.below (aH ((ah _ _).alloc (ae _) (obR ν 0 0 .nilFunc)))).Le bg Gl;have ck:=ak Jo;obtain⟨m0,m1,m2,m3,m4,m5,m6,m7⟩:=eE V3.eW;obtain⟨n0,n1⟩:=bq Jo;have ee:=aw V3.eW;have dx:=aw Jo;have fe:=nC;have RL:=ak V3.gr;clear TC Yd x8 Fa AG WQ a9 av zq Zh cb g0 g1 o0 o1 z am Vi Ng Jo JX V3;go_wp2_with fail;rw[<- cp.J];clear H I K L M N O U V W f0 f1 z0 z1 e0 e1 e2 e3 e4 e5 e6 e7
          go_cut[10,11]from 55 to 63 (λd7 d8 v=>(∃dS,d7=π (σ ⟨dS,0,ν⟩))/\d8=.bool (eU c (gk b.1 a.1)).isSome/\Hid (δ W6.heap.size W6 v))
          case first=>
           cases hg:eU c (gk b.1 a.1)with
           |none=>
             simp only[hg]at QI QJ;have a3:=ak hg;go_region
             all_goals(try go_wp2_with fail)
             all_goals go_meet
             all_goals exact⟨⟨_,rfl⟩,by rw[a3.J];rfl,ak (aH ((ah _ _).alloc (ae _) _))⟩
           |some bb=>
             simp only[hg]at QI QJ;unfold ot.val at QI QJ;obtain⟨u',t',hk,fb,fa,ff,Ar,yh⟩:=RL.J _ (mG hg);obtain⟨sa,lL,Dy⟩:=bu.slice yh.shr;have Ou:=yh.work;obtain⟨k2,jN,XM,-⟩:=Ou;rw[Dy,XM]at QI QJ;have fd:=iP k2 jN;have a3:=ak hg;clear yh hk Ar Dy XM hg;go_region
             all_goals(try go_wp2_with fail)
             all_goals go_meet
             all_goals exact⟨⟨_,rfl⟩,by rw[a3.J];rfl,ak (aH ((ah _ _).alloc (ae _) _))⟩
          case rest=>
           obtain⟨⟨Fl,rfl⟩,rfl,Rq⟩:=hcut;obtain⟨t,d4⟩:=nm wc;subst d4;have an:=Rq.J;have Er:=FD.J.trans (an.mono FD.J.size);obtain⟨ac,b3,be,ad,-⟩:=F.J t Er;obtain⟨bd,cc⟩:=HT.J t Er;clear m0 m1 m2 m3 m4 m5 m6 m7 n0 n1 QI QJ;have aq:=(an.block _ dx).trans ck.J;obtain⟨m0,m1,m2,m3,m4,m5,m6,m7⟩:=eE ac.eW;obtain⟨n0,n1⟩:=bq aq;obtain⟨H,I,K,L,M,N,O⟩:=pT be;obtain⟨U,V,W⟩:=aY bd;obtain⟨f0,f1⟩:=bq ad;have z0:=eR ad 0;have z1:=eR ad 1;have KM:(fS ot.val c).length=c.length:=by unfold fS;rw[aQ]
           have bc:=λty=>ac.Bf.len underlying71 ty;rw[KM]at bc;have cL:=bc 3;have eg:=aw ac.eW;have dN:=aw aq;have el:=aw be;have em:=aw bd;have b5:=aw ad;have a4:=ak ac;have bx:=ak aq;have bv:=ak ad;have bY:=ak b3;have en:=ak Er;have b4:=ak (cq dd.J an);have eq:f.heap.size<=t.heap.size:=ag dn.J (ag ds.J an.size);have b6:=ak cc;have b7:(fS ot.told c).length=c.length:=by unfold fS;rw[aQ]
           rw[b7,gU]at Y;have er:=ac.few.2;clear an Er ac b3 be ad bd cc aq bc KM b7;by_cases E:(eU c (gk b.1 a.1)).isSome=false/\8<=c.length
           . have h8:((c.length:Nat):Int)>=8:=by have:=E.2;omega
             have ax:=E.1;rw[ax];go_wp2_with fail;obtain⟨⟨P,Q⟩,d2⟩:=gE bY.J (bE _) bv.J (ι κ 8) (ι κ 0);refine aB (rT results285 rfl P Q) rfl ?_;have Ba:(eU c (gk b.1 a.1)).map ot.told=ν:=by
              have g:=E.1
              cases hx:eU c (gk b.1 a.1)with
              |none=>rfl
              |some bb=>rw[hx]at g;cases g
             rw[Y.J,aE (by decide),aF ⟨by rw[Ba];rfl,E.2⟩];exact HH.J.same d2 (8,0) rfl
           . have zg:Hid (vt (cO r c) b a i d o=((0,0),⟨fS gD.told r,qt (fS ot.told c) (gk b.1 a.1) (p,d)⟩)):=ak (by
              rw[Y.J,aE (by decide),aE];rintro⟨g,y⟩;apply E;refine⟨?_,y⟩
              cases hx:eU c (gk b.1 a.1)with
              |none=>rfl
              |some bb=>rw[hx]at g;cases g)
             have RQ:Hid ((pW c (gk b.1 a.1)).length<8):=ak (by
              by_cases h8:c.length<8
              . exact du (by unfold pW;exact fH _ _) h8
              . cases hx:eU c (gk b.1 a.1)with
                |none=>rw[hx]at E;exact absurd ⟨rfl,by omega⟩ E
                |some bb=>
                  have:=X9 (mG hx) (akp b.1 a.1);omega)
             have d6:((eU c (gk b.1 a.1)).isSome=true)\/((eU c (gk b.1 a.1)).isSome=false/\¬((c.length:Nat):Int)>=8):=by
              cases hx:(eU c (gk b.1 a.1)).isSome with
              |true=>exact .inl rfl
              |false=>exact .inr ⟨rfl,λh8=>E ⟨hx,by omega⟩⟩
             have bt:=ak (λwr (j:δ t.heap.size t wr)=>(show Calls prog 153 #[.iface D (qG d),ψ ca e.cols.length ij] wr (λaa w'=>∃ab,aa=τ ab/\dJ w' wr.heap.size ab (gI e.cols) (λrow=>cU e.cols row d)/\δ wr.heap.size wr w')from by
              rw[<- x9];exact zc (by omega) d Cv 2 FB.J wr wr.heap.size _ (bu.below b6.J j (ae _)) (ae _)))
             have b0:=ak (λm (j:δ t.heap.size t m) ab=>(a4.J.below j).Bf.put Tryz.sT underlying71 (IA bg Gl) (by unfold fS;rw[aQ];omega) ab);have bo:=ak (λm (j:δ t.heap.size t m)=>(show(m.cell? ⟨al,7,ν⟩=σ (.map (σ mg))/\al<m.heap.size)/\(m.cell? ⟨w5.heap.size,0,ν⟩=σ (θ b.1)/\m.cell? ⟨w5.heap.size,1,ν⟩=σ (θ a.1)/\w5.heap.size<m.heap.size)from by
              have g:=(a4.J.below j).eW;have y:=(j.block _ dN).trans bx.J;exact⟨⟨(eE g).2.2.2.2.2.2.2,aw g⟩,(bq y).1,(bq y).2,aw y⟩))
             clear E m0 m1 m2 m3 m4 m5 m6 H I K L M N V W f0 f1 z0 z1;go_upto_region 12 with fail
             go_cut[11,73]from 64 to 72 (λ_ d9 v=>d9=.bool false/\t=v)
             case first=>
              rcases d6 with ax|⟨ax,h8⟩
              all_goals
               rw[ax];go_wp2_with fail;go_meet
               first|exact⟨rfl,rfl⟩|exact⟨by simp[h8],rfl⟩|exact⟨by simp_all,rfl⟩
             case rest=>
             obtain⟨rfl,rfl⟩:=hcut;clear cL;go_wp2_with fail
             go_cut[]from 74 to 250 (λv=>Hid (∃m k2 jN lo,δ t.heap.size t m/\t.heap.size<=lo/\lo<=m.heap.size/\dJ m lo (.func (.func k2) #[] jN) (gI e.cols) (λrow=>cU e.cols row d)/\lz v 198 mg (qt (fS ot.val c) (gk b.1 a.1) (χ #[ψ B C A,.func (.func k2) #[] jN]))/\m.grownBy v (σ mg)))
             case first=>
              go_region_law(refine ie rfl 153 _ _ rfl call153 #[.iface D (qG d),ψ ca e.cols.length ij] (by first|(simp[Act.eval];done)|(simp[Act.eval,Act.put];done)|rfl) _ (bt.J _ (aH (ah _ _))) ?_;rintro e' m ⟨v8,rfl,FR,X⟩;have c7:=FR;obtain⟨k2,jN,rfl,-⟩:=c7;refine⟨_,rfl,?_⟩;have a2:Hid (δ t.heap.size t m):=ak ((aH (ah _ _)).trans X);have cv:=ak X.size;have cr:=ak FR;obtain⟨w9,fc,hM,kC⟩:=b0.J m a2.J (χ #[ψ B C A,.func (.func k2) #[] jN]);have cn:=ak hM;have ci:=ak kC;obtain⟨⟨j0,j1⟩,j2,j3,j4⟩:=bo.J m a2.J;clear FR X hM kC)
              all_goals(try go_wp2_with fail)
              all_goals go_meet
              all_goals exact ak ⟨m,k2,jN,_,a2.J,ae _,cv.J,cr.J,cn.J,ci.J⟩
             case rest=>
              obtain⟨m,k2,jN,lo,X,nR,Ye,FR,hM,kC⟩:=hcut.J;have d5:=HH.J.Bf.lt;have Wb:k.heap.size+1≠mg:=by omega
              have dT:=X.size;have On:=(kC.block (k.heap.size+1) (by omega) (λd=>Wb (bf d))).trans ((X.block _ b5).trans bv.J);have vH:=JD.J;have dg:0<i.length:=jd.mpr cd;have bw:Hid (abX e.cols (p,d)):=ak ⟨by show 0<p.length;rw[vH.1];simp;omega,ag vH.2.1 h5,vH.2.2,Cv,FB.J⟩;have tN:=ak (λW9 (e9:W9=(wc.setCell ⟨k.heap.size+1,0,ν⟩ (ι κ 0)).setCell ⟨k.heap.size+1,1,ν⟩ (ι κ 0))=>XZ HH.J hu.1 ht.1 co.J bY.J X kC b5 e9 b4.J (by omega) nR FR hM RQ.J bw.J zg.J);obtain⟨ey,eH⟩:=bq On;have y0:=eR On 0;have y1:=eR On 1;have ev:=aw On;have cg:=ak On;clear X nR Ye FR hM kC d5 Wb On hcut dT m7 n0 n1 O U bt b0 bo bx a4 b4 b6 FB zg RQ JD F HT vH dg bw;go_wp2_with fail;obtain⟨P,Q⟩:=bq (aN _ _ 1 _ _ (ι κ 0) (aN _ _ 0 _ _ (ι κ 0) cg.J));refine aB (rT results285 rfl P Q) rfl ?_;exact tN.J _ rfl
        . have z:decide (x.1≠0)=true:=by simpa using ap
          rw[z];have zg:Hid (vt (cO r c) b a i d o=(x,cO r c)):=ak (by rw[Y.J,HG.J];exact aci (by rw[<- HG.J];exact ap) _ _);clear TC Yd x8 Fa AG WQ a9 av zq Zh cb o0 o1 z am;go_wp2_with fail;obtain⟨⟨P,Q⟩,d2⟩:=gE cm.J (bE _) cf.J (ι κ x.1) (ι κ x.2);refine aB (rT results285 rfl P Q) rfl ?_;rw[zg.J];exact HH.J.same d2 x rfl
     . obtain yv:fy e.cols i []=.inl n:=by
        rcases R with g|⟨p,-,y,-⟩
        . exact g
        . rw[y]at ao;exact absurd rfl ao
       rw[yv]at Y;have z:decide (n.1≠0)=true:=by simpa using ao
       rw[z];clear Nr R Yc fI yB nB Ga vS ar E1 LQ Sy z yv;go_wp2_with fail;obtain⟨⟨P,Q⟩,d2⟩:=gE cl.J (bE _) ce.J (ι κ n.1) (ι κ n.2);refine aB (rT results285 rfl P Q) rfl ?_;rw[Y.J];exact HH.J.same d2 n rfl
end
