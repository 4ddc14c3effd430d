import Derived.Test.YtcoaphfimellcaaGreatDoorFBI
import Derived.Sort.OwnSortedInts
set_option maxHeartbeats 0
set_option maxRecDepth 100000
namespace Go.Proofs.YtcoaphfimellcaaGreatDoor
open Go.RowKit
open _root_.Go.Proofs.Tryz
open Option renaming some→σ,none→ν
open Go.IntKind renaming i64→κ
open Go.Ending renaming returned→τ
open Go renaming World→ω,Value→υ
open Go.Value renaming int→ι,string→θ,slice→ψ,agg→χ
variable{w t:ω}{p n l i:υ}{m r s u:Nat}{x:List Nat}{v:TypeId}
section
open Go.Maps
theorem aex{cols:List bu}{s:ByteArray}(a:0<=zl cols s):(zl cols s).toNat<cols.length/\zl cols s=((zl cols s).toNat:Nat):=by refine⟨?_,by omega⟩;unfold zl at a ⊢;cases ha:Nz cols s with|none=>rw[ha]at a;simp at a|some b=>simp only[Int.toNat_natCast];unfold Nz at ha;exact(jx.mp ha).1
theorem aey:∀{l:List Nat},l.Nodup->(∀a∈l,a<m)->l.length<=m:=by
 induction m with
 |zero=>intro l _ b;cases l with|nil=>simp|cons a n=>exact absurd (b a (by simp)) (by omega)
 |succ m f=>
  intro l d b;by_cases e:m∈l
  .have k:=List.length_erase_of_mem e
   have i:=f (l:=l.erase m) (d.erase m) (λa c=>by
    have j:=(d.mem_erase_iff).mp c;have:=b a j.2;omega)
   omega
  have i:=f d (λa c=>by
   have:=b a c;have:a≠m:=λg=>e (g ▸ c);omega)
  omega
theorem MT{cols:List bu}:∀{f:List Nm} {a d:List Nat},gG cols f a=.inr d->a.Nodup->(∀b∈a,b<cols.length)->d.length=a.length+f.length/\d.length<=cols.length/\∀b∈d,b<cols.length
 |[],a,d,h,hd,hl=>by
   unfold gG at h
   cases h
   refine⟨by simp,by simpa using aey hd hl,λb c=>hl b (by simpa using c)⟩
 |n::r,a,d,h,hd,hl=>by
   unfold gG at h;split at h
   . cases h
   . rename_i s
     split at h
     . cases h
     . rename_i m
       have i:(zl cols n.1).toNat∉a:=by simpa using m
       have e:=MT h (by
        rw[List.nodup_append];refine⟨hd,by simp,λo l p g=>?_⟩;simp at g;subst g;exactλj=>i (j ▸ l)) (λb c=>by
        rw[bn,a6]at c;rcases c with c|rfl
        . exact hl b c
        . exact(aex (by omega)).1)
       refine⟨?_,e.2.1,e.2.2⟩;have k:=e.1;rw[aw,gE]at k;rw[aX];omega
theorem aez(d:List Nat):(d.map (λa:Nat=>(a:Int))).mergeSort (λe f=>decide (e<=f))=(d.mergeSort (λb c=>decide (b<=c))).map (λa:Nat=>(a:Int)):=(List.map_mergeSort (λb _ c _=>by simp)).symm
theorem RS(a:List Nat):(a.map (λb:Nat=>(b:Int))).map (Value.int κ)=a.map nr:=by rw[gI];rfl
theorem O4(j:w.ownsRow m 3 1 p x.length (x.map nr))(A:x.length<=100000)(a:Nat):Calls prog 287 #[p,ι κ a] w λb l=>b=τ (.bool (x.contains a))/\l=w:=by obtain⟨g,i,rfl,s,-⟩:=cu j;cases x with|nil=>exact Tryz.slices_Contains_int_empty g i a w|cons d c=>obtain⟨n,rfl,-⟩:=s (by simp);have u:=bz.fM j;obtain⟨B,C,z,r,-,-,v⟩:=bz.at u (by simp);cases r;refine(Tryz.slices_Contains_int n 0 (d::c).length i ((d::c).map (λy:Nat=>(y:Int))) a w (by simp) (by omega) (λf t=>?_)).mono ?_;{have k:f<(d::c).length:=(by simpa using t);have o:=v f (nr ((d::c)[f])) (by rw[aU,af k];rfl);rw[o,List.getD_eq_getElem?_getD,aU,af k];rfl};rintro b l ⟨rfl,rfl⟩;refine⟨?_,rfl⟩;congr 2;rw[aL (by simp)];rw[ld,oi,oi,cI];constructor;{rintro⟨g,e,b⟩;rw[<- Int.ofNat.inj b];exact e};exactλe=>⟨a,e,rfl⟩
theorem aeA(l:w.ownsRow m 3 1 p x.length (x.map nr))(y:0<x.length)(z:x.length<=100000):Calls prog 288 #[p] w λf g=>f=τ (.tuple #[])/\g.ownsRow m 3 1 p x.length ((x.mergeSort (λc e=>decide (c<=e))).map nr)/\w.grownBy g p.ownBlock:=by
 rcases l.2 with⟨-,f⟩|⟨k,j,cur,rfl,u,d,n,o,r,s⟩;{omega};have b:(x.map (λa:Nat=>(a:Int))).length=x.length:=by simp
 have t:=holds_of_blockI (ss:=x.map (λa:Nat=>(a:Int))) d (by rw[b,RS];simpa using s);have i:=Tryz.slices_Sort_int k 0 j (x.map (λa:Nat=>(a:Int))) w t (ay d) (by rw[b];omega);rw[b]at i;refine i.mono ?_;rintro f g ⟨rfl,a,v,rfl⟩;rw[aez];refine⟨rfl,?_,grownBy_sortedI _⟩;have:=ownsRow_sortedI (n:=a) (os:=v) (ss:=x.map (λa:Nat=>(a:Int))) (ts:=(x.mergeSort (λc e=>decide (c<=e))).map (λa:Nat=>(a:Int))) (by simp) u d (by rw[b];exact n) o r;rw[b,RS]at this;exact this
theorem qw{a b c:υ}(d:w.heap[m]?=σ (.cells #[p,n,l,i,a,b,c] v (0,0))) :
 w.cell? ⟨m,0,ν⟩=σ p/\w.cell? ⟨m,1,ν⟩=σ n/\w.cell? ⟨m,2,ν⟩=σ l/\w.cell? ⟨m,3,ν⟩=σ i/\w.cell? ⟨m,4,ν⟩=σ a/\w.cell? ⟨m,5,ν⟩=σ b/\w.cell? ⟨m,6,ν⟩=σ c:=by simp[World.cell?,d]
def vS(w w':ω)(res:(Nat×Nat) ⊕ List Nat)(r:Ending):Prop:=Below w.heap.size w w'/\match res with
 |.inl f=>r=τ (.tuple #[ψ ν 0 0,χ #[ι κ f.1,ι κ f.2]])
 |.inr sh=>∃sv,r=τ (.tuple #[sv,χ #[ι κ 0,ι κ 0]])/\w'.ownsRow w.heap.size 3 1 sv sh.length (sh.map nr)
theorem vS.bad{c:(Nat×Nat) ⊕ List Nat}{b:Ending}{a:Nat×Nat}(e:c=.inl a)(d:Below w.heap.size w t)(f:b=τ (.tuple #[ψ ν 0 0,χ #[ι κ a.1,ι κ a.2]])):vS w t c b:=by subst e;exact⟨d,f⟩
theorem RT{size:Nat}{b:List υ}(e:w.ownsRow m v size p s b)(g:r<=m):w.ownsRow r v size p s b:=by rcases e with⟨a,f|⟨d,c,cur,j,i,k⟩⟩;{exact⟨a,.inl f⟩};exact⟨a,.inr ⟨d,c,cur,j,ag g i,k⟩⟩
theorem RU{f:ω}{l k:Nm}{a:List Nm}{O:υ}{C:Nat}{ev cv:υ}{E:TypeId}{z:υ}(a2:ev=.iface E z){cols:List bu}(a1:a≠[])(Bz:a.length<=302)(hv:bz f 2 O a.length (EJ a))(Y:eT f cv cols)(h5:cols.length<=5) :
 Calls prog 286 #[χ #[θ l.1,ι κ l.2,θ k.1,ι κ k.2,O,ι κ C,ev],cv] f λa3 w'=>vS f w' (gG cols a []) a3:=by
 subst a2;obtain⟨F,y,rfl⟩:=bz.slice hv;obtain⟨ca,jd,rfl⟩:=bz.slice Y;have⟨e,A⟩:=nm ((f.alloc (obM l.1 l.2 k.1 k.2 F a.length y C (.iface E z))).alloc (iQ 0 0));have jw:=xI A;have Ae:e.heap.size=f.heap.size+2:=by rw[A];simp
 have kN:e.heap[f.heap.size]?=σ (obM l.1 l.2 k.1 k.2 F a.length y C (.iface E z))/\e.heap[f.heap.size+1]?=σ (iQ 0 0):=(by rw[A];have e2:=ak (f.alloc (obM l.1 l.2 k.1 k.2 F a.length y C (.iface E z))) (iQ 0 0);rw[show(f.alloc (obM l.1 l.2 k.1 k.2 F a.length y C (.iface E z))).heap.size=f.heap.size+1 by simp]at e2;exact⟨(fu _ _ (by simp)).trans (ak f _),e2⟩)
 have R:=au (λwr (hb:Below e.heap.size e wr)=>(show Below f.heap.size f wr/\wr.heap[f.heap.size+1]?=σ (iQ 0 0)/\bz wr 2 (ψ F a.length y) a.length (EJ a)/\eT wr (ψ ca cols.length jd) cols from by
  have X:=jw.trans (hb.mono (by omega));exact⟨X,(hb.block _ (by omega)).trans kN.2,bz.below hv X (ae _),bz.below Y X (ae _)⟩))
 have HW:=au A;have V:=kN.1;have⟨c0,c1,c2,c3,c4,c5,c6⟩:=qw V;have IK:=ay V;have ap:Hid (Below e.heap.size e e):=au (ah _ _);have xc:=au Ae;have⟨i0,zr,lU,lV,lk⟩:=jc Tryz.wU;clear A jw kN V Ae hv Y;go_in;go_wp2_with fail;rw[<- HW.J];clear c0 c1 c2 c3 c4 c5 c6;go_loopw[6,13] (λO b wr=>∃(d:Nat) (c:List Nat),d<=a.length/\Hid (c.length=d)/\b=ι κ d/\Hid (gG cols a []=gG cols (a.drop d) c)/\Hid (wr.ownsRow e.heap.size 3 1 O c.length (c.map nr))/\Hid (Below e.heap.size e wr)) (λ_ b _=>a.length - (intOf b).toNat);case atStart=>exact⟨0,[],aI _,au rfl,rfl,au rfl,au ⟨rfl,.inl ⟨rfl,rfl⟩⟩,ap⟩
 case round=>
  obtain⟨d,c,hi,r,rfl,ZS,T,D⟩:=hrel;have⟨mR,n,U,Q⟩:=R.J wr D.J;by_cases cQ:d<a.length
  .have jY:(d:Int)<a.length:=(by omega);obtain⟨b,M⟩:∃b,a[d]?=σ b:=⟨_,af cQ⟩;have Ut:a.drop d=b::a.drop (d+1):=(by rw[cE cQ];congr 1;exact(aj.mp M).2);have u:Hid (gG cols a []=if zl cols b.1<0 then .inl (5,b.2)else if c.contains (zl cols b.1).toNat then .inl (6,b.2)else gG cols (a.drop (d+1)) (c++[(zl cols b.1).toNat])):=au (by rw[ZS.J,Ut];rfl);obtain⟨vg,vo,Eb,he,-,a5,hx⟩:=bz.at U (by omega);cases he;have x0:wr.cell? ⟨vg,vo+d*2,ν⟩=σ (θ b.1):=hx (d*2) _ (ek Du 2 (λ_=>rfl) a M (j:=0) (by decide));have x1:wr.cell? ⟨vg,vo+d*2+1,ν⟩=σ (ι κ b.2):=hx (d*2+1) _ (ek Du 2 (λ_=>rfl) a M (j:=1) (by decide));have⟨W1,N⟩:=nm (wr.alloc (obU b.1 b.2));have L:=pq N;have oz:W1.heap[wr.heap.size]?=σ (obU b.1 b.2):=(by rw[N];exact ak wr _);have o:=T.J;obtain⟨ka,W,rfl,-,-⟩:=cu o;have ac:=ct o L;have aq:=au (Dp cols (ψ ca cols.length jd) b.1 W1 (bz.below Q L (ae _)) (by omega));have WO:=au ac;have sJ:=au oz;have RW:=au (D.J.trans (L.mono D.J.size));have FW:=au N;clear mR n U Q hx N L oz o ac M Ut;go_wp2_with fail;rw[<- FW.J];refine aq.J.mono ?_;rintro an P ⟨rfl,n⟩;have np:=(n.block _ (ay sJ.J)).trans sJ.J;have⟨k0,k1⟩:=br np;have p:=RW.J.trans (n.mono RW.J.size);have aC:=p.size;have Dr:=au (ct WO.J n);have E6:=ay np;obtain⟨t,i,-,-⟩:=R.J P p;have⟨f0,f1⟩:=br i;have z0:=fP i 0;have z1:=fP i 1;have H:=au i;have I:=au t;have J4:=au p;clear n np p t i x0 x1;by_cases Z:zl cols b.1<0;{have s:Hid (gG cols a []=.inl (5,b.2)):=au (by rw[u.J,aF Z]);go_wp2_with fail;go_region;all_goals (try go_wp2_with fail);have⟨⟨v,w⟩,x⟩:=ik I.J (bF _) H.J (ι κ 5) (ι κ b.2);refine aD (by simp[results,results286,go_sem,v,w];rfl) rfl ?_;exact vS.bad s.J (aH x) rfl}
   have⟨aa,ab⟩:=aex (cols:=cols) (s:=b.1) (by omega);have⟨g,K⟩:=nm ((zl cols b.1).toNat);rw[<- K]at aa ab;have HJ:Hid (g=(zl cols b.1).toNat):=au K;have ar:=au (show c.length<=100000 from by rw[r.J];omega);have ao:=au (O4 Dr.J ar.J g);have a4:=au aa;rw[aE Z]at u;rw[ab]at Z ⊢;rw[<- K]at u;clear K ab aa;go_wp2_with fail;refine ao.J.mono ?_;rintro an G ⟨rfl,rfl⟩;by_cases B:c.contains g=true;{have s:Hid (gG cols a []=.inl (6,b.2)):=au (by rw[u.J,aF B]);rw[B];go_wp2_with fail;go_region;all_goals (try go_wp2_with fail);have⟨⟨v,w⟩,x⟩:=ik I.J (bF _) H.J (ι κ 6) (ι κ b.2);refine aD (by simp[results,results286,go_sem,v,w];rfl) rfl ?_;exact vS.bad s.J (aH x) rfl}
   have ad:Hid (gG cols a []=gG cols (a.drop (d+1)) (c++[g])):=au (by rw[u.J,aE B])
   simp only[Bool.not_eq_true]at B;rw[B];have Cy:=au (Dr.J.alloc (.cells #[ι κ g] 3));have uQ:=au (World.news_of_block (w:=G.alloc (.cells #[ι κ g] 3)) (B:=G.heap.size) (ak G (.cells #[ι κ g] 3)));have Ur:Hid (c.length+1<=maxLen):=au (by rw[r.J];unfold maxLen;omega);have Re:Hid ((c.length+1)*8<=140737488355328):=au (by rw[r.J];omega);have Ly:Hid (e.heap.size<=(G.alloc (.cells #[ι κ g] 3)).heap.size):=au (by simp;omega);go_wp2_with(at_builtin;refine ou _ rfl _ _ 36 rfl e.heap.size 3 i0 _ 1 8 underlying36 zr lU lV lk rfl (by decide) (ψ ka c.length W) c.length (c.map nr) rfl Cy.J ⟨G.heap.size,0,ν⟩ 1 1 [nr g] rfl rfl uQ.J (by simp[nr,Value.oneCell']) Ur.J Re.J Ly.J ?_);intro v' w4 nR jT _;have vu:Hid (w4.ownsRow e.heap.size 3 1 v' (c++[g]).length ((c++[g]).map nr)):=au (by rw[aw,cZ];exact nR);have oI:Hid (Below e.heap.size e w4):=au (((J4.J.alloc aC _)).grown jT Ly.J (λj m=>(Cy.J.lt j m).1));have al:Hid ((c++[g]).length=d+1):=au (by rw[aw,r.J];rfl);clear nR jT;go_wp2_with fail
   first
   |exact⟨⟨d+1,_,by omega,al,by go_num,ad,vu,oI⟩,by simp[intOf];omega⟩
   | (go_roundw
      case rel=>exact⟨d+1,_,by omega,al,by go_num,ad,vu,oI⟩
      case measure=>simp[intOf];omega)
  obtain rfl:d=a.length:=by omega
  have s:Hid (gG cols a []=.inr (c.mergeSort (λax a0=>decide (ax<=a0)))):=au (by rw[ZS.J,gB];rfl);have o:=T.J;obtain⟨ka,W,rfl,-,-⟩:=cu o;have h0:0<c.length:=by rw[r.J];exact jL.mpr a1
  have av:=au (aeA o h0 (by rw[r.J];omega));clear mR n U Q o h0;go_wp2_with fail;refine av.J.mono ?_;rintro an P ⟨rfl,cj,lW⟩;have p:Below e.heap.size e P:=D.J.grown lW D.J.size (λj m=>(T.J.lt j m).1);obtain⟨t,i,-,-⟩:=R.J P p;have⟨f0,f1⟩:=br i;have z0:=fP i 0;have z1:=fP i 1;have H:=au i;have I:=au t;have am:=au cj;clear t i cj lW p;go_wp2_with fail;have⟨⟨v,w⟩,x⟩:=ik I.J (bF _) H.J (ι κ 0) (ι κ 0);refine aD (by simp[results,results286,go_sem,v,w];rfl) rfl ?_;rw[s.J];refine⟨x,_,rfl,?_⟩;rw[List.length_mergeSort];have fy:∀j,(Value.slice ka c.length W).ownBlock=σ j->j≠f.heap.size+1:=λj m=>by
   have:=(am.J.lt j m).1;rw[xc.J]at this;omega
  exact RT (fC am.J (λj m=>(az _ _ _ _ (fy j m)).trans (az _ _ _ _ (fy j m)))) (by rw[xc.J];omega)
theorem aat{K:uS}{e wc c:ω}{mt:Nat}{F:Nat->Prop}{E:List (Lit×ij)}{y:List (Lit×oV)}(C:df K w m mt r F E y){A k:ByteArray}(hu:A.size<=8)(Z:k.size<=8){z:ij}(aa:(tk k,z)∈E){b:Ex}
 (o:Below w.heap.size w t) (j:Below t.heap.size t e) (g:e.grownBy wc (σ r)) (VL:w.heap.size+1<t.heap.size)  (v:c=(wc.setCell ⟨w.heap.size+1,0,ν⟩ l).setCell ⟨w.heap.size+1,1,ν⟩ i) (G:t.ownsRow u 3 1 p x.length (x.map nr)) (vD:w.heap.size+1<u) (oA:t.heap.size<=s)
 (N:dX e s n (iy z.cols) (λrow=>cU z.cols row b)) (V:lS wc 198 r (qU (gQ oV.val y) (gk A k) (χ #[p,n]))) (P:(qA y (gk A k)).length<8) (wP:ael z.cols (x,b)) {L:(Nat×Nat)×qV} (M:L=((0,0),⟨gQ ij.told E,qU (gQ oV.told y) (gk A k) (x,b)⟩)) :
 lI K w c m mt r F E L (τ (χ #[ι κ 0,ι κ 0])):=by
 have ac:=C.Ci.lt;have ab:=j.size;have R:w.heap.size+1≠r:=by omega
 have am:c.heap.size=wc.heap.size:=by rw[v];simp[World.setCell]
 have B:∀a,a≠w.heap.size+1->c.heap[a]?=wc.heap[a]?:=λa d=>by rw[v];exact(az _ _ _ _ d).trans (az _ _ _ _ d)
 have ad:=o.size;have al:=g.size;have U:aY (λa=>a<w.heap.size/\a≠r) w c:=⟨by rw[v];exact g.os.trans (j.os.trans o.os),by rw[v];exact g.tape.trans (j.tape.trans o.tape),by rw[v];exact g.output.trans (j.output.trans o.output),by omega,λa d=>(B a (by have:=d.1;omega)).trans ((g.block a (by have:=d.1;omega) (λb=>d.2 (bk b))).trans ((j.block a (by have:=d.1;omega)).trans (o.block a d.1)))⟩;have Y:=fC (w2:=c) G (λf W=>by
  have D:=G.lt f W;exact(B f (by omega)).trans ((g.block f (by omega) (λb=>by have:=bk b;omega)).trans (j.block f D.2)))
 have Q:lS c 198 r (gQ oV.val (qU y (gk A k) ⟨p,n,x,b,e,s⟩)):=(by rw[<- Ax];exact V.kept (B r (λb=>R b.symm)));have zy:aag c F z.cols ⟨p,n,x,b,e,s⟩:=
  { shr:=bz.fM Y
    shn:=λH n' T hv X=>by
     have O:p=ψ (σ H) n' T:=hv;have D:=G.lt H.block (by rw[O];rfl);have I:=C.sV _ X;omega
    work:=N
    kept:=(show gq s e.heap.size e c from⟨by omega,λf D I=>(B f (by omega)).trans (g.block f I (λb=>by have:=bk b;omega))⟩)
    away:=λa (D:s<=a) _ hX=>by have:=C.sV _ hX;omega
    fit:=wP }
 rw[M];exact C.granted hu Z aa (g:=⟨p,n,x,b,e,s⟩) Q U P zy rfl
end
