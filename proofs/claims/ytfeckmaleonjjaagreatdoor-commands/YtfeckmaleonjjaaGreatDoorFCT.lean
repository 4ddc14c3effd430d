import Derived.Test.YtfeckmaleonjjaaGreatDoorFCR
import Derived.Sort.OwnSortedInts
import Derived.Deep.DeepCutAuto
set_option maxHeartbeats 0
set_option maxRecDepth 100000
namespace Go.Proofs.YtfeckmaleonjjaaGreatDoor
section
open Go.World renaming ownsRow→Φ
open List renaming length→Λ
open Go.RowKit
open _root_.Go.Proofs.Tryz
open Option renaming some→σ,none→ν
open Go.IntKind renaming i64→κ
open Go.Ending renaming returned→τ
open Go renaming World→ω,Value→υ
open Go.Value renaming int→ι,string→θ,slice→ψ,agg→χ
variable{w t:ω}{p n l i:υ}{m r s u:Nat}{x:Δ Nat}{v:TypeId}
section
open Go.Maps
theorem adC{cy:Δ bU}{s:Γ}(a:0<=mI cy s):(mI cy s).toNat<Λ cy/\mI cy s=((mI cy s).toNat:Nat):=by refine⟨?_,by omega⟩;unfold mI at a ⊢;cases ha:wP cy s with|none=>rw[ha]at a;simp at a|some b=>simp only[Int.toNat_natCast];unfold wP at ha;exact(aR.mp ha).1
theorem adD:∀{l:Δ Nat},l.Nodup->(∀a∈l,a<m)->Λ l<=m:=by
 induction m with
 |zero=>intro l _ b;cases l with|nil=>simp|cons a n=>exact absurd (b a (by simp)) (by omega)
 |succ m f=>
  intro l d b;by_cases e:m∈l
  .have k:=List.length_erase_of_mem e
   have i:=f (l:=l.erase m) (d.erase m) (λa c=>by
    have j:=(d.mem_erase_iff).mp c;have:=b a j.2;omega)
   omega
  have i:=f d (λa c=>by
   have:=b a c;have:a≠m:=λg=>e (g ▸ c);omega)
  omega
theorem MP{e:Δ bU}:∀{g:Δ Nm} {a d:Δ Nat},fX e g a=.inr d->a.Nodup->(∀b∈a,b<Λ e)->Λ d=Λ a+Λ g/\(Λ d)<=Λ e/\∀b∈d,b<Λ e
 |[],a,d,h,hd,hl=>by
   unfold fX at h
   cases h
   refine⟨by simp,by simpa using adD hd hl,λb c=>hl b (by simpa using c)⟩
 |n::r,a,d,h,hd,hl=>by
   unfold fX at h;split at h
   . cases h
   . rename_i t
     split at h
     . cases h
     . rename_i o
       have j:(mI e n.1).toNat∉a:=by simpa using o
       have f:=MP h (by
        rw[List.nodup_append];refine⟨hd,by simp,λp m s i=>?_⟩;simp at i;subst i;exactλk=>j (k ▸ m)) (λb c=>by
        rw[bA,bj]at c;rcases c with c|rfl
        . exact hl b c
        . exact(adC (by omega)).1)
       refine⟨?_,f.2.1,f.2.2⟩;have l:=f.1;rw[au,eC]at l;rw[cw];omega
theorem adE(d:Δ Nat):(d.map (λa:Nat=>(a:Int))).mergeSort (λe f=>decide (e<=f))=(d.mergeSort (λb c=>decide (b<=c))).map (λa:Nat=>(a:Int)):=(List.map_mergeSort (λb _ c _=>by simp)).symm
theorem RH(a:Δ Nat):(a.map (λb:Nat=>(b:Int))).map (Value.int κ)=a.map oH:=by rw[iL];rfl
theorem Oq(j:Φ w m 3 1 p (Λ x) (x.map oH))(A:Λ x<=100000)(a:Nat):Calls prog 279 #[p,ι κ a] w λb l=>b=τ (.bool (x.contains a))/\l=w:=by obtain⟨g,i,rfl,s,-⟩:=cR j;cases x with|nil=>exact Tryz.slices_Contains_int_empty g i a w|cons d c=>obtain⟨n,rfl,-⟩:=s (by simp);have u:=aS.dE j;obtain⟨B,C,z,r,-,-,v⟩:=aS.at u (by simp);cases r;refine(Tryz.slices_Contains_int n 0 (d::c).length i ((d::c).map (λy:Nat=>(y:Int))) a w (by simp) (by omega) (λf t=>?_)).mono ?_;{have k:f<(d::c).length:=(by simpa using t);have o:=v f (oH ((d::c)[f])) (by rw[bp,af k];rfl);rw[o,ph,bp,af k];rfl};rintro b l ⟨rfl,rfl⟩;refine⟨?_,rfl⟩;congr 2;rw[aQ (by simp)];rw[jt,mG,mG,cP];constructor;{rintro⟨g,e,b⟩;rw[<- Int.ofNat.inj b];exact e};exactλe=>⟨a,e,rfl⟩
theorem adF(l:Φ w m 3 1 p (Λ x) (x.map oH))(y:0<Λ x)(z:Λ x<=100000):Calls prog 280 #[p] w λf g=>f=τ (.tuple #[])/\Φ g m 3 1 p (Λ x) ((x.mergeSort (λc e=>decide (c<=e))).map oH)/\w.grownBy g p.ownBlock:=by
 rcases l.2 with⟨-,f⟩|⟨k,j,cur,rfl,u,d,n,o,r,s⟩;{omega};have b:(x.map (λa:Nat=>(a:Int))).length=Λ x:=by simp
 have t:=holds_of_blockI (ss:=x.map (λa:Nat=>(a:Int))) d (by rw[b,RH];simpa using s);have i:=Tryz.slices_Sort_int k 0 j (x.map (λa:Nat=>(a:Int))) w t (aA d) (by rw[b];omega);rw[b]at i;refine i.mono ?_;rintro f g ⟨rfl,a,v,rfl⟩;rw[adE];refine⟨rfl,?_,grownBy_sortedI _⟩;have:=ownsRow_sortedI (n:=a) (os:=v) (ss:=x.map (λa:Nat=>(a:Int))) (ts:=(x.mergeSort (λc e=>decide (c<=e))).map (λa:Nat=>(a:Int))) (by simp) u d (by rw[b];exact n) o r;rw[b,RH]at this;exact this
theorem qW{a b c:υ}(d:w.heap[m]?=σ (.cells #[p,n,l,i,a,b,c] v (0,0))) :
 w.cell? ⟨m,0,ν⟩=σ p/\w.cell? ⟨m,1,ν⟩=σ n/\w.cell? ⟨m,2,ν⟩=σ l/\w.cell? ⟨m,3,ν⟩=σ i/\w.cell? ⟨m,4,ν⟩=σ a/\w.cell? ⟨m,5,ν⟩=σ b/\w.cell? ⟨m,6,ν⟩=σ c:=by simp[World.cell?,d]
def vU(w w':ω)(res:(Nat×Nat) ⊕ Δ Nat)(r:Ending):Prop:=Below w.heap.size w w'/\match res with
 |.inl f=>r=τ (.tuple #[ψ ν 0 0,χ #[ι κ f.1,ι κ f.2]])
 |.inr sh=>∃sv,r=τ (.tuple #[sv,χ #[ι κ 0,ι κ 0]])/\Φ w' w.heap.size 3 1 sv (Λ sh) (sh.map oH)
theorem vU.bad{c:(Nat×Nat) ⊕ Δ Nat}{b:Ending}{a:Nat×Nat}(e:c=.inl a)(d:Below w.heap.size w t)(f:b=τ (.tuple #[ψ ν 0 0,χ #[ι κ a.1,ι κ a.2]])):vU w t c b:=by subst e;exact⟨d,f⟩
theorem RI{size:Nat}{b:Δ υ}(e:Φ w m v size p s b)(g:r<=m):Φ w r v size p s b:=by rcases e with⟨a,f|⟨d,c,cur,j,i,k⟩⟩;{exact⟨a,.inl f⟩};exact⟨a,.inr ⟨d,c,cur,j,ay g i,k⟩⟩
theorem RJ{f:ω}{l k:Nm}{a:Δ Nm}{N:υ}{C:Nat}{ev cv:υ}{D:TypeId}{A:υ}(a1:ev=.iface D A){c:Δ bU}(a0:a≠[])(uq:Λ a<=302)(hv:aS f 2 N (Λ a) (iA a))(hc:eK f cv c)(h5:Λ c<=5) :
 Calls prog 277 #[χ #[θ l.1,ι κ l.2,θ k.1,ι κ k.2,N,ι κ C,ev],cv] f λa2 w'=>vU f w' (fX c a []) a2:=by
 subst a1;obtain⟨F,z,rfl⟩:=aS.slice hv;obtain⟨ca,nj,rfl⟩:=aS.slice hc;have⟨W,B⟩:=nm ((f.alloc (obM l.1 l.2 k.1 k.2 F (Λ a) z C (.iface D A))).alloc (nP 0 0));have pS:=zS B;have ES:W.heap.size=f.heap.size+2:=by rw[B];simp
 have mo:W.heap[f.heap.size]?=σ (obM l.1 l.2 k.1 k.2 F (Λ a) z C (.iface D A))/\W.heap[f.heap.size+1]?=σ (nP 0 0):=(by rw[B];have e2:=az (f.alloc (obM l.1 l.2 k.1 k.2 F (Λ a) z C (.iface D A))) (nP 0 0);rw[show(f.alloc (obM l.1 l.2 k.1 k.2 F (Λ a) z C (.iface D A))).heap.size=f.heap.size+1 by simp]at e2;exact⟨(fY _ _ (by simp)).trans (az f _),e2⟩)
 have R:=ak (λwr (hb:Below W.heap.size W wr)=>(show Below f.heap.size f wr/\wr.heap[f.heap.size+1]?=σ (nP 0 0)/\aS wr 2 (ψ F (Λ a) z) (Λ a) (iA a)/\eK wr (ψ ca (Λ c) nj) c from by
  have Z:=pS.trans (hb.mono (by omega));exact⟨Z,(hb.block _ (by omega)).trans mo.2,aS.aU hv Z (ae _),aS.aU hc Z (ae _)⟩))
 have HW:=ak B;have X:=mo.1;have⟨c0,c1,c2,c3,c4,c5,c6⟩:=qW X;have EL:=aA X;have am:Hid (Below W.heap.size W W):=ak (aj _ _);have L5:=ak ES;have⟨i0,px,lB,ll,kV⟩:=gq Tryz.Eg;clear B pS mo X ES hv hc;go_in;go_wp2;rw[<- HW.J];clear c0 c1 c2 c3 c4 c5 c6;go_loopw[6,13] (λN b wr=>∃(e:Nat) (d:Δ Nat),e<=Λ a/\Hid (Λ d=e)/\b=ι κ e/\Hid (fX c a []=fX c (a.drop e) d)/\Hid (Φ wr W.heap.size 3 1 N (Λ d) (d.map oH))/\Hid (Below W.heap.size W wr)) (λ_ b _=>Λ a - (intOf b).toNat);case atStart=>exact⟨0,[],aB _,ak rfl,rfl,ak rfl,ak ⟨rfl,.inl ⟨rfl,rfl⟩⟩,am⟩
 case round=>
  obtain⟨e,d,hi,r,rfl,Wt,T,E⟩:=hrel;have⟨oX,o,U,Q⟩:=R.J wr E.J;by_cases Y:e<Λ a
  .have gY:=aX.2 Y;obtain⟨b,M⟩:∃b,a[e]?=σ b:=⟨_,af Y⟩;have Uy:a.drop e=b::a.drop (e+1):=(by rw[cL Y];congr 1;exact(ah.mp M).2);have u:Hid (fX c a []=if mI c b.1<0 then .inl (5,b.2)else if d.contains (mI c b.1).toNat then .inl (6,b.2)else fX c (a.drop (e+1)) (d++[(mI c b.1).toNat])):=ak (by rw[Wt.J,Uy];rfl);obtain⟨vg,vo,MO,he,-,a4,hx⟩:=aS.at U (by omega);cases he;have x0:wr.cell? ⟨vg,vo+e*2,ν⟩=σ (θ b.1):=hx (e*2) _ (cV rG 2 (λ_=>rfl) a M (j:=0) (by decide));have x1:wr.cell? ⟨vg,vo+e*2+1,ν⟩=σ (ι κ b.2):=hx (e*2+1) _ (cV rG 2 (λ_=>rfl) a M (j:=1) (by decide));have⟨W1,P⟩:=nm (wr.alloc (obU b.1 b.2));have L:=Br P;have mL:W1.heap[wr.heap.size]?=σ (obU b.1 b.2):=(by rw[P];exact az wr _);have p:=T.J;obtain⟨ka,ku,rfl,-,-⟩:=cR p;have ZN:=cO p L;have an:=ak (Hf c (ψ ca (Λ c) nj) b.1 W1 (aS.aU Q L (ae _)) (by omega));have ar:=ak ZN;have DL:=ak mL;have RM:=ak (E.J.trans (L.mono E.J.size));have Ko:=ak P;clear oX o U Q hx P L mL p ZN M Uy;go_wp21;rw[<- Ko.J];refine an.J.mono ?_;rintro ai O ⟨rfl,o⟩;have j6:=(o.block _ (aA DL.J)).trans DL.J;have⟨k0,k1⟩:=bQ j6;have n:=RM.J.trans (o.mono RM.J.size);have aC:=n.size;have LG:=ak (cO ar.J o);have oY:=aA j6;obtain⟨t,i,-,-⟩:=R.J O n;have⟨f0,f1⟩:=bQ i;have z0:=jd i 0;have z1:=jd i 1;have I:=ak i;have H:=ak t;have J0:=ak n;clear o j6 n t i x0 x1;by_cases V:mI c b.1<0;{have s:Hid (fX c a []=.inl (5,b.2)):=ak (by rw[u.J,aN V]);go_wp2;go_region;all_goals (try go_wp2);have⟨⟨w,x⟩,y⟩:=ie H.J (dt _) I.J (ι κ 5) (ι κ b.2);refine aE (by simp[results,results277,go_sem,w,x];rfl) rfl ?_;exact vU.bad s.J (aP y) rfl}
   have⟨aa,ab⟩:=adC (cy:=c) (s:=b.1) (by omega);have⟨g,K⟩:=nm ((mI c b.1).toNat);rw[<- K]at aa ab;have HJ:Hid (g=(mI c b.1).toNat):=ak K;have ao:=ak (show Λ d<=100000 from by rw[r.J];omega);have al:=ak (Oq LG.J ao.J g);have a3:=ak aa;rw[aH V]at u;rw[ab]at V ⊢;rw[<- K]at u;clear K ab aa;go_wp21;refine al.J.mono ?_;rintro ai G ⟨rfl,rfl⟩;by_cases v:d.contains g=true;{have s:Hid (fX c a []=.inl (6,b.2)):=ak (by rw[u.J,aN v]);rw[v];go_wp2;go_region;all_goals (try go_wp2);have⟨⟨w,x⟩,y⟩:=ie H.J (dt _) I.J (ι κ 6) (ι κ b.2);refine aE (by simp[results,results277,go_sem,w,x];rfl) rfl ?_;exact vU.bad s.J (aP y) rfl}
   have ac:Hid (fX c a []=fX c (a.drop (e+1)) (d++[g])):=ak (by rw[u.J,aH v])
   simp only[Bool.not_eq_true]at v;rw[v];have FR:=ak (LG.J.alloc (.cells #[ι κ g] 3));have vB:=ak (World.news_of_block (w:=G.alloc (.cells #[ι κ g] 3)) (B:=G.heap.size) (az G (.cells #[ι κ g] 3)));have XG:Hid (Λ d+1<=maxLen):=ak (by rw[r.J];unfold maxLen;omega);have ap:Hid ((Λ d+1)*8<=140737488355328):=ak (by rw[r.J];omega);have Sp:Hid (W.heap.size<=(G.alloc (.cells #[ι κ g] 3)).heap.size):=ak (by simp;omega);go_wp2_with(at_builtin;refine ef _ rfl _ _ 36 rfl W.heap.size 3 i0 _ 1 8 underlying36 px lB ll kV rfl (by decide) (ψ ka (Λ d) ku) (Λ d) (d.map oH) rfl FR.J ⟨G.heap.size,0,ν⟩ 1 1 [oH g] rfl rfl vB.J (by simp[oH,Value.oneCell']) XG.J ap.J Sp.J ?_);intro v' w4 oN kH _;have TC:Hid (Φ w4 W.heap.size 3 1 v' (d++[g]).length ((d++[g]).map oH)):=ak (by rw[au,cT];exact oN);have r7:Hid (Below W.heap.size W w4):=ak (((J0.J.alloc aC _)).grown kH Sp.J (λj m=>(FR.J.lt j m).1));have ad:Hid ((d++[g]).length=e+1):=ak (by rw[au,r.J];rfl);clear oN kH;go_wp2
   first
   |exact⟨⟨e+1,_,by omega,ad,by go_num,ac,TC,r7⟩,by simp[intOf];omega⟩
   | (go_roundw
      case rel=>exact⟨e+1,_,by omega,ad,by go_num,ac,TC,r7⟩
      case measure=>simp[intOf];omega)
  obtain rfl:e=Λ a:=by omega
  have s:Hid (fX c a []=.inr (d.mergeSort (λax aT=>decide (ax<=aT)))):=ak (by rw[Wt.J,lZ];rfl);have p:=T.J;obtain⟨ka,ku,rfl,-,-⟩:=cR p;have h0:0<Λ d:=by rw[r.J];exact j9.mpr a0
  have av:=ak (adF p h0 (by rw[r.J];omega));clear oX o U Q p h0;go_wp21;refine av.J.mono ?_;rintro ai O ⟨rfl,dy,nA⟩;have n:Below W.heap.size W O:=E.J.grown nA E.J.size (λj m=>(T.J.lt j m).1);obtain⟨t,i,-,-⟩:=R.J O n;have⟨f0,f1⟩:=bQ i;have z0:=jd i 0;have z1:=jd i 1;have I:=ak i;have H:=ak t;have ag:=ak dy;clear t i dy nA n;go_wp2;have⟨⟨w,x⟩,y⟩:=ie H.J (dt _) I.J (ι κ 0) (ι κ 0);refine aE (by simp[results,results277,go_sem,w,x];rfl) rfl ?_;rw[s.J];refine⟨y,_,rfl,?_⟩;rw[List.length_mergeSort];have jK:∀j,(Value.slice ka (Λ d) ku).ownBlock=σ j->j≠f.heap.size+1:=λj m=>by
   have:=(ag.J.lt j m).1;rw[L5.J]at this;omega
  exact RI (vh ag.J (λj m=>(aL _ _ _ _ (jK j m)).trans (aL _ _ _ _ (jK j m)))) (by rw[L5.J];omega)
theorem ZO{I:zr}{e wc c:ω}{mt:Nat}{E:Nat->Prop}{D:Δ (Lit×iU)}{u:Δ (Lit×pL)}(B:dH I w m mt r E D u){z k:Γ}(hu:z.size<=8)(Z:k.size<=8){y:iU}(Q:(tk k,y)∈D){b:Ex}{lo:Nat}
 (v:Below w.heap.size w t) (j:Below t.heap.size t e) (g:e.grownBy wc (σ r)) (ac:w.heap.size+1<t.heap.size)  (o:c=(wc.setCell ⟨w.heap.size+1,0,ν⟩ l).setCell ⟨w.heap.size+1,1,ν⟩ i) (F:Φ t s 3 1 p (Λ x) (x.map oH)) (vH:w.heap.size+1<s) (nX:t.heap.size<=lo)
 (N:fN e lo n (pK y.cy) (λrow=>jq y.cy row b)) (U:mK wc 239 r (o7 (ik pL.val u) (gk z k) (χ #[p,n]))) (M:(o6 u (gk z k)).length<8) (zH:adr y.cy (x,b)) {K:(Nat×Nat)×vT} (L:K=((0,0),⟨ik iU.told D,o7 (ik pL.told u) (gk z k) (x,b)⟩)) :
 mB I w c m mt r E D K (τ (χ #[ι κ 0,ι κ 0])):=by
 have ad:=B.Ch.lt;have ab:=j.size;have P:w.heap.size+1≠r:=by omega
 have al:c.heap.size=wc.heap.size:=by rw[o];simp[World.setCell]
 have A:∀a,a≠w.heap.size+1->c.heap[a]?=wc.heap[a]?:=λa d=>by rw[o];exact(aL _ _ _ _ d).trans (aL _ _ _ _ d)
 have ag:=v.size;have ai:=g.size;have T:bu (λa=>a<w.heap.size/\a≠r) w c:=⟨by rw[o];exact g.os.trans (j.os.trans v.os),by rw[o];exact g.tape.trans (j.tape.trans v.tape),by rw[o];exact g.output.trans (j.output.trans v.output),by omega,λa d=>(A a (by have:=d.1;omega)).trans ((g.block a (by have:=d.1;omega) (λb=>d.2 (bh b))).trans ((j.block a (by have:=d.1;omega)).trans (v.block a d.1)))⟩;have Y:=vh (w2:=c) F (λf V=>by
  have C:=F.lt f V;exact(A f (by omega)).trans ((g.block f (by omega) (λb=>by have:=bh b;omega)).trans (j.block f C.2)))
 have O:mK c 239 r (ik pL.val (o7 u (gk z k) ⟨p,n,x,b,e,lo⟩)):=(by rw[<- AB];exact U.kept (A r (λb=>P b.symm)));have wQ:Zz c E y.cy ⟨p,n,x,b,e,lo⟩:=
  { shr:=aS.dE Y
    shn:=λG n' R hv X=>by
     have aa:p=ψ (σ G) n' R:=hv;have C:=F.lt G.block (by rw[aa];rfl);have H:=B.pZ _ X;omega
    work:=N
    kept:=(show lH lo e.heap.size e c from⟨by omega,λf C H=>(A f (by omega)).trans (g.block f H (λb=>by have:=bh b;omega))⟩)
    away:=λa (C:lo<=a) _ hX=>by have:=B.pZ _ hX;omega
    fit:=zH }
 rw[L];exact B.granted hu Z Q (g:=⟨p,n,x,b,e,lo⟩) O T M wQ rfl
end
end
section
open List renaming length→Λ
open Go.RowKit
open _root_.Go.Proofs.Tryz
open Option renaming some→σ,none→ν
open Go.IntKind renaming i64→κ
open Go.RowKit renaming Below→δ
open Go.Value renaming int→ι,string→θ,slice→ψ,pointer→π,agg→χ
variable{w:World}{p:Nat}
section
open Go.Maps
theorem Gl{d:Δ bU}:∀{c:Δ Nm} {b:Δ Nat} {a:Nat×Nat},fX d c b=.inl a->a.1≠0
 |[],b,a,h=>by unfold fX at h;cases h
 |n::r,b,a,h=>by
   unfold fX at h;split at h
   . cases h;simp
   . split at h
     . cases h;simp
     . exact Gl h
theorem adK{a:Δ bU}{b:Ex}(c:(vV a b p).1≠0){g:Type}(st:g)(i:(Nat×Nat)×g):(match dp a b with|.inr e=>(e,st)|.inl d=>if d≠2 then((7,p),st)else i)=(vV a b p,st):=by unfold vV at c ⊢;cases hk:dp a b with|inr e=>rfl|inl d=>rw[hk]at c;by_cases f:d=2;{simp[f]at c};simp[f]
theorem ZP{cy:Δ bU}{e:Ex}{pl:Nat}(a:(vV cy e pl).1=0):dp cy e=.inl 2:=by unfold vV at a;cases hk:dp cy e with|inr d=>rw[hk]at a;exact absurd a (Rt cy e hk).1|inl c=>rw[hk]at a;by_cases b:c=2;{rw[b]};simp[b]at a
theorem ZQ{c:Type}{a:Δ (Lit×c)}{b:Lit}{d:c}(e:(b,d)∈a)(f:WideAt.IsKeyLit b):(o6 a b).length<Λ a:=by unfold o6;rw[List.length_filter_lt_length_iff_exists];exact⟨_,e,by simp[WideAt.sameKey_self f]⟩
theorem vU.gen{f:World}{e:(Nat×Nat) ⊕ Δ Nat}{l:Ending}(n:vU w f e l):∃c k d,∃b:Nat×Nat,l=.returned (.tuple #[ψ c k d,χ #[ι κ b.1,ι κ b.2]])/\(e=.inl b\/∃a,e=.inr a/\b=(0,0)/\f.ownsRow w.heap.size 3 1 (ψ c k d) (Λ a) (a.map oH))/\δ w.heap.size w f:=by obtain⟨g,i⟩:=n;cases e with|inl m=>exact⟨ν,0,0,m,i,.inl rfl,g⟩|inr a=>obtain⟨o,rfl,j⟩:=i;obtain⟨c,d,rfl,-,-⟩:=cR j;exact⟨c,Λ a,d,(0,0),rfl,.inr ⟨a,rfl,rfl,j⟩,g⟩
theorem ZR{bz:zr}{k:World}{ai mt mg:Nat}{bb:Nat->Prop}{r:Δ (Lit×iU)}{c:Δ (Lit×pL)}(h:dH bz k ai mt mg bb r c){b a:Nm}(hu:nF b)(ht:nF a){i:Δ Nm}(cl:i≠[])(uq:Λ i<=302){ab:Value}(hv:aS k 2 ab (Λ i) (iA i)){d:Ex}(G6:tS d){o:Nat} :
 Calls prog 276 #[χ #[θ b.1,ι κ b.2,θ a.1,ι κ a.2,ab,ι κ o,se d],π (σ ⟨ai,0,ν⟩)] k λaa w'=>mB bz k w' ai mt mg bb r (vm (dD r c) b a i d o) aa:=by
 have ZC:(8:Nat)<=maxLen:=by unfold maxLen;omega
 have bv:=ay hu.1 ZC;have Hk:=ay ht.1 ZC;obtain⟨C,Hh,-,-⟩:=Bl d;obtain⟨va,Z,rfl⟩:=aS.slice hv;rw[Hh];obtain⟨W,hW⟩:=nm ((k.alloc (obM b.1 b.2 a.1 a.2 va (Λ i) Z o (.iface C (zO d)))).alloc (nP 0 0));have pS:=zS hW;have ES:W.heap.size=k.heap.size+2:=by rw[hW];simp
 have mo:W.heap[k.heap.size]?=σ (obM b.1 b.2 a.1 a.2 va (Λ i) Z o (.iface C (zO d)))/\W.heap[k.heap.size+1]?=σ (nP 0 0):=(by rw[hW];have e2:=az (k.alloc (obM b.1 b.2 a.1 a.2 va (Λ i) Z o (.iface C (zO d)))) (nP 0 0);rw[show(k.alloc (obM b.1 b.2 a.1 a.2 va (Λ i) Z o (.iface C (zO d)))).heap.size=k.heap.size+1 by simp]at e2;exact⟨(fY _ _ (by simp)).trans (az k _),e2⟩)
 have E:=ak (λwr (j:δ W.heap.size W wr)=>(show dH bz wr ai mt mg bb r c/\δ k.heap.size k wr/\wr.heap[k.heap.size]?=σ (obM b.1 b.2 a.1 a.2 va (Λ i) Z o (.iface C (zO d)))/\wr.heap[k.heap.size+1]?=σ (nP 0 0)/\aS wr 2 (ψ va (Λ i) Z) (Λ i) (iA i)from by
  have g:=pS.trans (j.mono (by omega));exact⟨h.aU g,g,(j.block _ (by omega)).trans mo.1,(j.block _ (by omega)).trans mo.2,aS.aU hv g (ae _)⟩))
 have HW:=ak hW;obtain⟨hS,-,cI,s,-⟩:=E.J W (aj _ _);obtain⟨F,G,H,I,K,L,M⟩:=qW cI;obtain⟨f0,f1⟩:=bQ s;have z0:=jd s 0;have z1:=jd s 1;obtain⟨e0,e1,e2,e3,e4,e5,e6,e7⟩:=eS hS.jy;have ex:=aA hS.jy;have EL:=aA cI;have BT:=aA s;have Oo:=hS.find Hk;have sd:=(hS.aU (aP (aj _ _))).find Hk;have HH:=ak h;have fM:=ak s;have oZ:=ak pS;cases hg:fH r (tk a.1)with
 |none=>simp only[hg]at Oo sd;have BA:Hid (vm (dD r c) b a i d o=((5,a.2),dD r c)):=ak (by unfold vm dD;simp only;rw[jE,hg];rfl);clear h hW pS mo hS cI s hg ES hv;go_in;go_wp2_with fail;rw[<- HW.J];go_region;all_goals (try go_wp2_with fail);obtain⟨⟨N,O⟩,d2⟩:=ie (w1:=W) oZ.J (dt _) fM.J (ι κ 5) (ι κ a.2);refine aE (tP results276 rfl N O) rfl ?_;rw[BA.J];exact HH.J.same (aP d2) (5,a.2) rfl
 |some e=>
  simp only[hg]at Oo sd;unfold iU.val at Oo sd;have ZF:(tk a.1,e)∈r:=(by have g:=mQ hg;exact g)
  have Np:=hS.tab _ ZF;obtain⟨ca,nj,Nk⟩:=Np.Lc.slice;have c8:=ak Nk;have HT:=ak (λwr (j:δ W.heap.size W wr)=>(show wr.heap[e.q]?=σ (.cells #[ψ ca (Λ e.cy) nj,e.sv,ι κ (Λ e.Cs.flatten)] 244 (0,0))/\eK wr (ψ ca (Λ e.cy) nj) e.cy from by
   have g:=(E.J wr j).1.tab _ ZF;rw[<- c8.J];exact⟨g.jy,g.Lc⟩))
  have h5:Λ e.cy<=5:=Np.GQ.1;have cK:=ak ZF;obtain⟨f,ym⟩:=nm W.drew;have Oh:Hid (δ W.heap.size W f):=ak (by rw[ym];exact aP (aj _ _));have b6:=ak (λwr (j:δ f.heap.size f wr)=>(show Calls prog 277 #[χ #[θ b.1,ι κ b.2,θ a.1,ι κ a.2,ψ va (Λ i) Z,ι κ o,.iface C (zO d)],ψ ca (Λ e.cy) nj] wr (λaa w'=>vU wr w' (fX e.cy i []) aa)from by
   have zC:=Oh.J.trans (j.mono Oh.J.size);exact RJ rfl cl uq (E.J wr zC).2.2.2.2 (HT.J wr zC).2 h5))
  have a6:(f.alloc (nP 0 0)).drew.heap.size=f.heap.size+1:=by show(f.heap.push _).size=_;rw[gJ]
  have xW:=ak (λu (j:δ (f.alloc (nP 0 0)).drew.heap.size (f.alloc (nP 0 0)).drew u)=>(show u.heap[f.heap.size]?=σ (nP 0 0)/\δ f.heap.size f u from
   ⟨(j.block f.heap.size (by omega)).trans (az f (nP 0 0)),(aP ((aj f.heap.size f).alloc (ae _) _)).trans (j.mono (by omega))⟩))
  have ba:=ak a6;have X:Hid (vm (dD r c) b a i d o=match fX e.cy i []with|.inl be=>(be,dD r c)|.inr p=>match dp e.cy d with|.inr be=>(be,dD r c)|.inl Q=>if Q≠2 then((7,o),dD r c)else if(fH (ik pL.told c) (gk b.1 a.1)).isNone/\8<=(ik pL.told c).length then((8,0),dD r c)else((0,0),⟨ik iU.told r,o7 (ik pL.told c) (gk b.1 a.1) (p,d)⟩)):=ak (by
   unfold vm dD;simp only;rw[jE,hg];rfl)
  obtain⟨K7,Fg⟩:=HT.J W (aj _ _);obtain⟨R,T,U⟩:=bN K7;have F9:=aA K7;have yn:=ak ym;obtain⟨wT,-,cd,-,-⟩:=E.J f Oh.J;obtain⟨ce,-⟩:=HT.J f Oh.J;have C2:=ak (qW cd);have Q2:=ak (bN ce);have ey:=Oh.J.size;clear h hW pS mo hS cI s hg ES hv Np Nk K7 Fg ZF a6 ym wT cd ce;go_in;go_wp2_with fail;rw[<- HW.J];go_cut[5]from 12 to 25 (λs5 v=>s5=π (σ ⟨e.q,0,ν⟩)/\f=v)
  (case first=>go_region;(all_goals(try go_wp2_with fail));(all_goals go_meet);all_goals exact⟨rfl,yn.J⟩);case rest=>
   obtain⟨rfl,rfl⟩:=hcut;clear Oo sd F G H I K L M f0 f1 z0 z1 e0 e1 e2 e3 e4 e5 e6 e7 R T U yn;obtain⟨F,G,H,I,K,L,M⟩:=C2.J;obtain⟨R,T,U⟩:=Q2.J;have d8:k.heap.size<f.heap.size:=(by omega);have d9:e.q<f.heap.size:=(by omega);go_wp2_with fail;go_cut[6,7]from 26 to 34 (λs6 s7 v=>∃z B A,∃n:Nat×Nat,∃b9,s6=ψ z B A/\s7=π (σ ⟨b9,0,ν⟩)/\Hid (v.heap[b9]?=σ (nP n.1 n.2)/\(fX e.cy i []=.inl n\/∃p,fX e.cy i []=.inr p/\n=(0,0)/\v.ownsRow f.heap.size 3 1 (ψ z B A) (Λ p) (p.map oH))/\δ f.heap.size f v))
   case first=>
    go_region_law(refine lL rfl 277 _ _ rfl call277 #[χ #[θ b.1,ι κ b.2,θ a.1,ι κ a.2,ψ va (Λ i) Z,ι κ o,.iface C (zO d)],ψ ca (Λ e.cy) nj] (by first|(simp[Act.eval];done)|(simp[Act.eval,Act.put];done)|rfl) _ (b6.J _ (by first|exact aP (aj _ _)|exact aP ((aj _ _).alloc (ae _) _))) ?_;rintro e' u ud;obtain⟨z,B,A,n,rfl,P,s⟩:=ud.gen;refine⟨_,rfl,?_⟩;clear ud;(first|(have D:=(xW.J u s).1;obtain⟨a0,a1⟩:=bQ D;have ga:=λbx=>jd D bx;have V7:=ak D;clear D)|skip);have J0:Hid (δ f.heap.size f u):=ak (by first|exact(aP (aj _ _)).trans s|exact(xW.J u s).2);have b7:=ak P;clear P s);(all_goals(try go_wp2_with fail));(all_goals go_meet);all_goals
     first
     |exact⟨z,B,A,n,_,rfl,rfl,ak ⟨az _ _,b7.J.imp id (λ⟨p,g,x,h3⟩=>⟨p,g,x,cO h3 ((aj _ _).alloc (ae _) _)⟩),J0.J.alloc J0.J.size _⟩⟩
     |exact⟨z,B,A,n,_,rfl,rfl,ak ⟨bq _ _ 1 _ _ _ (bq _ _ 0 _ _ _ V7.J),b7.J.imp id (λ⟨p,g,x,h3⟩=>⟨p,g,x,by
        have jK:∀Q,(Value.slice z B A).ownBlock=σ Q->Q≠f.heap.size:=λQ hk=>by
         have:=(h3.lt Q hk).1;rw[ba.J]at this;omega
        exact RI (vh h3 (λQ hk=>(aL _ _ _ _ (jK Q hk)).trans (aL _ _ _ _ (jK Q hk)))) (by rw[ba.J];omega)⟩),(J0.J.setCell (ae _) _).setCell (ae _) _⟩⟩
   case rest=>
    obtain⟨z,B,A,n,b9,rfl,rfl,H9⟩:=hcut;clear F G H I K L M R T U b6 xW ba;obtain⟨RN,P,SV⟩:=H9.J;obtain⟨o0,o1⟩:=bQ RN;have Vt:=ak (tw n.1 n.2 wc);have c9:=aA RN;clear RN SV P;go_wp2_with fail;refine Vt.J.mono ?_;rintro aa l ⟨rfl,gO⟩;obtain⟨RN,P,SV⟩:=H9.J;have BS:=(gO.block _ c9).trans RN;obtain⟨g0,g1⟩:=bQ BS;have N9:=Oh.J.trans ((SV.trans (gO.mono SV.size)).mono Oh.J.size);obtain⟨JF,AV,a3,Ls,-⟩:=E.J l N9;obtain⟨Le,bc⟩:=HT.J l N9;obtain⟨f0,f1⟩:=bQ Ls;have z0:=jd Ls 0;have z1:=jd Ls 1;have em:=aA Ls;have co:=ak Ls;have KC:=ak AV;have r7:=ak N9;by_cases ao:n.1=0
    .obtain⟨p,Hw,d4,dy⟩:∃p,fX e.cy i []=.inr p/\n=(0,0)/\wc.ownsRow f.heap.size 3 1 (ψ z B A) (Λ p) (p.map oH):=(by rcases P with g|g;{exact absurd ao (Gl g)};exact g);have y:decide (n.1≠0)=false:=(by simp[ao]);rw[y];have db:=ak (cO dy gO);have dn:=ak (ay SV.size gO.size);have QW:=ak (MP Hw List.nodup_nil (by simp));rw[Hw]at X;have Wt:=ak (λwr (j:δ l.heap.size l wr)=>Lr (w:=wr) (e:=d) (pl:=o) G6 (aS.aU bc j (ae _)) (ay h5 (by decide)));rw[Hh]at Wt;obtain⟨w,hG⟩:=nm (vV e.cy d o);rw[<- hG]at Wt;have HG:=ak hG;obtain⟨F,G,H,I,K,L,M⟩:=qW a3;obtain⟨R,T,U⟩:=bN Le;have ev:=aA a3;have el:=aA Le;have a6:(l.alloc (nP 0 0)).drew.heap.size=l.heap.size+1:=(by show(l.heap.push _).size=_;rw[gJ])
     have xW:=ak (λu (j:δ (l.alloc (nP 0 0)).drew.heap.size (l.alloc (nP 0 0)).drew u)=>(show u.heap[l.heap.size]?=σ (nP 0 0)/\δ l.heap.size l u from
      ⟨(j.block l.heap.size (by omega)).trans (az l (nP 0 0)),(aP ((aj l.heap.size l).alloc (ae _) _)).trans (j.mono (by omega))⟩))
     clear RN P SV gO BS N9 JF AV a3 Ls Le bc g0 g1 f0 f1 z0 z1 y dy Hw d4 hG a6 o0 o1;go_wp2_with fail;go_cut[8]from 35 to 54 (λs8 v=>∃b9,s8=π (σ ⟨b9,0,ν⟩)/\Hid (v.heap[b9]?=σ (nP w.1 w.2)/\δ l.heap.size l v))
     case first=>
      go_region_law(refine lL rfl 275 _ _ rfl call275 #[χ #[ι κ o,.iface C (zO d)],ψ ca (Λ e.cy) nj] (by first|(simp[Act.eval];done)|(simp[Act.eval,Act.put];done)|rfl) _ (Wt.J _ (by first|exact aP (aj _ _)|exact aP ((aj _ _).alloc (ae _) _))) ?_;rintro e' u ⟨rfl,s⟩;refine⟨_,rfl,?_⟩;(first|(have D:=(xW.J u s).1;obtain⟨a0,a1⟩:=bQ D;have ga:=λbx=>jd D bx;have V7:=ak D;clear D)|skip);have J0:Hid (δ l.heap.size l u):=ak (by first|exact(aP (aj _ _)).trans s|exact(xW.J u s).2);clear s);(all_goals(try go_wp2_with fail));(all_goals go_meet);all_goals
       first
       |exact⟨_,rfl,ak ⟨az _ _,J0.J.alloc J0.J.size _⟩⟩
       |exact⟨_,rfl,ak ⟨bq _ _ 1 _ _ _ (bq _ _ 0 _ _ _ V7.J),(J0.J.setCell (ae _) _).setCell (ae _) _⟩⟩
     case rest=>
      obtain⟨eq,rfl,bH⟩:=hcut;clear F G H I K L M R T U Wt xW H9 Vt;obtain⟨Vw,ZS⟩:=bH.J;obtain⟨o0,o1⟩:=bQ Vw;have Vt:=ak (tw w.1 w.2 wc);have dc:=aA Vw;clear Vw ZS;go_wp2_with fail;refine Vt.J.mono ?_;rintro aa w5 ⟨rfl,A7⟩;obtain⟨Vw,ZS⟩:=bH.J;have bl:=(A7.block _ dc).trans Vw;obtain⟨g0,g1⟩:=bQ bl;have al:=ZS.trans (A7.mono ZS.size);have an:=r7.J.trans (al.mono r7.J.size);obtain⟨av,bd,a4,Hm,-⟩:=E.J w5 an;obtain⟨a2,cf⟩:=HT.J w5 an;obtain⟨f0,f1⟩:=bQ Hm;have z0:=jd Hm 0;have z1:=jd Hm 1;have ea:=aA Hm;have cp:=ak Hm;have cx:=ak bd;have TI:=ak an;have dd:=ak (cO db.J al);have ds:=ak (ay dn.J al.size);by_cases ar:w.1=0
      .have y:decide (w.1≠0)=false:=(by simp[ar]);rw[y];have Dn:=ak (ZP (cy:=e.cy) (e:=d) (pl:=o) (by rw[<- HG.J];exact ar));rw[Dn.J]at X;obtain⟨F,G,H,I,K,L,M⟩:=qW a4;obtain⟨R,T,U⟩:=bN a2;obtain⟨e0,e1,e2,e3,e4,e5,e6,e7⟩:=eS av.jy;have ew:=aA a4;have eb:=aA a2;have ep:=aA av.jy;obtain⟨W6,ax⟩:=nm (w5.alloc (obX b.1 a.1));have sj:=Br ax;have aC:W6.heap[w5.heap.size]?=σ (obX b.1 a.1):=(by rw[ax];exact az w5 _);have bi:=TI.J.trans (sj.mono TI.J.size);have Gy:=ak bi;have cN:=ak ax;have dg:=ak (cO dd.J sj);have dv:=ak sj.size;obtain⟨ac,-⟩:=E.J W6 bi;have SQ:=(ac.aU (aP (aj _ _))).ML bv Hk;have SR:=(ac.aU (aP ((aj _ _).alloc (ae _) (obR ν 0 0 .nilFunc)))).ML bv Hk;have cv:=ak aC;obtain⟨m0,m1,m2,m3,m4,m5,m6,m7⟩:=eS ac.jy;obtain⟨n0,n1⟩:=bQ aC;have en:=aA ac.jy;have dN:=aA aC;have fd:=oC;have cu:=ak ac.gr;clear Vw ZS A7 bl an av bd a4 Hm a2 cf g0 g1 o0 o1 y al ax sj aC bi ac;go_wp2_with fail;rw[<- cN.J];clear F G H I K L M R T U f0 f1 z0 z1 e0 e1 e2 e3 e4 e5 e6 e7;go_cut[10,11]from 55 to 63 (λXJ XK v=>(∃dS,XJ=π (σ ⟨dS,0,ν⟩))/\XK=.bool (fH c (gk b.1 a.1)).isSome/\Hid (δ W6.heap.size W6 v))
       (case first=>cases hg:fH c (gk b.1 a.1)with|none=>(simp only[hg]at SQ SR;have a8:=ak hg;go_region;(all_goals(try go_wp2_with fail));(all_goals go_meet);all_goals exact⟨⟨_,rfl⟩,by rw[a8.J];rfl,ak (aP ((aj _ _).alloc (ae _) _))⟩)|some bg=>simp only[hg]at SQ SR;unfold pL.val at SQ SR;obtain⟨u',t',hk,fa,e8,fe,Bv,wQ⟩:=cu.J _ (mQ hg);obtain⟨sa,nZ,WB⟩:=aS.slice wQ.shr;have QT:=wQ.work;obtain⟨k2,kP,Nd,-⟩:=QT;rw[WB,Nd]at SQ SR;have fc:=mq k2 kP;have a8:=ak hg;clear wQ hk Bv WB Nd hg;go_region;(all_goals(try go_wp2_with fail));(all_goals go_meet);all_goals exact⟨⟨_,rfl⟩,by rw[a8.J];rfl,ak (aP ((aj _ _).alloc (ae _) _))⟩);case rest=>
        obtain⟨⟨er,rfl⟩,rfl,cn⟩:=hcut;obtain⟨t,d5⟩:=nm wc;subst d5;have am:=cn.J;have ap:=Gy.J.trans (am.mono Gy.J.size);obtain⟨ad,b8,bt,ag,-⟩:=E.J t ap;obtain⟨bo,cg⟩:=HT.J t ap;clear m0 m1 m2 m3 m4 m5 m6 m7 n0 n1 SQ SR;have aT:=(am.block _ dN).trans cv.J;obtain⟨m0,m1,m2,m3,m4,m5,m6,m7⟩:=eS ad.jy;obtain⟨n0,n1⟩:=bQ aT;obtain⟨F,G,H,I,K,L,M⟩:=qW bt;obtain⟨R,T,U⟩:=bN bo;obtain⟨f0,f1⟩:=bQ ag;have z0:=jd ag 0;have z1:=jd ag 1;have Gt:(ik pL.val c).length=Λ c:=(by unfold ik;rw[bk]);have bn:=λty=>ad.Ch.len underlying72 ty;rw[Gt]at bn;have c7:=bn 3;have ec:=aA ad.jy;have dk:=aA aT;have ed:=aA bt;have ee:=aA bo;have ci:=aA ag;have a9:=ak ad;have b4:=ak aT;have b2:=ak ag;have b5:=ak b8;have eg:=ak ap;have cb:=ak (cO dg.J am);have ei:f.heap.size<=t.heap.size:=ay ds.J (ay dv.J am.size);have ck:=ak cg;have cc:(ik pL.told c).length=Λ c:=(by unfold ik;rw[bk]);rw[cc,jE]at X;have ek:=ad.few.2;clear am ap ad b8 bt ag bo cg aT bn Gt cc;by_cases V:(fH c (gk b.1 a.1)).isSome=false/\8<=Λ c;{have h8:((Λ c:Nat):Int)>=8:=(by have:=V.2;omega);have a5:=V.1;rw[a5];go_wp2_with fail;obtain⟨⟨N,O⟩,d2⟩:=ie b5.J (dt _) b2.J (ι κ 8) (ι κ 0);refine aE (tP results276 rfl N O) rfl ?_;have BO:(fH c (gk b.1 a.1)).map pL.told=ν:=(by have g:=V.1;cases hx:fH c (gk b.1 a.1)with|none=>rfl|some bg=>rw[hx]at g;cases g);rw[X.J,aH (by decide),aN ⟨by rw[BO];rfl,V.2⟩];exact HH.J.same d2 (8,0) rfl}
        have BA:Hid (vm (dD r c) b a i d o=((0,0),⟨ik iU.told r,o7 (ik pL.told c) (gk b.1 a.1) (p,d)⟩)):=ak (by
         rw[X.J,aH (by decide),aH];rintro⟨g,x⟩;apply V;refine⟨?_,x⟩
         cases hx:fH c (gk b.1 a.1)with
         |none=>rfl
         |some bg=>rw[hx]at g;cases g)
        have b1:Hid ((o6 c (gk b.1 a.1)).length<8):=ak (by
         by_cases h8:Λ c<8
         . exact bY (by unfold o6;exact gX _ _) h8
         . cases hx:fH c (gk b.1 a.1)with
           |none=>rw[hx]at V;exact absurd ⟨rfl,by omega⟩ V
           |some bg=>
             have:=ZQ (mQ hx) (Vj b.1 a.1);omega)
        have TR:((fH c (gk b.1 a.1)).isSome=true)\/((fH c (gk b.1 a.1)).isSome=false/\¬((Λ c:Nat):Int)>=8):=(by cases hx:(fH c (gk b.1 a.1)).isSome with|true=>exact .inl rfl|false=>exact .inr ⟨rfl,λh8=>V ⟨hx,by omega⟩⟩)
        have OG:=ak (λwr (j:δ t.heap.size t wr)=>(show Calls prog 278 #[.iface C (zO d),ψ ca (Λ e.cy) nj] wr (λaa w'=>∃ab,aa=.returned ab/\fN w' wr.heap.size ab (pK e.cy) (λrow=>jq e.cy row d)/\δ wr.heap.size wr w')from by
         rw[<- Hh];exact Ry (by omega) d G6 2 Dn.J wr wr.heap.size _ (aS.aU ck.J j (ae _)) (ae _)))
        have KE:=ak (λm (j:δ t.heap.size t m) ab=>(a9.J.aU j).Ch.put Tryz.uC underlying72 (Jw bv Hk) (by unfold ik;rw[bk];omega) ab);have b0:=ak (λm (j:δ t.heap.size t m)=>(show(m.cell? ⟨ai,7,ν⟩=σ (.map (σ mg))/\ai<m.heap.size)/\(m.cell? ⟨w5.heap.size,0,ν⟩=σ (θ b.1)/\m.cell? ⟨w5.heap.size,1,ν⟩=σ (θ a.1)/\w5.heap.size<m.heap.size)from by
         have g:=(a9.J.aU j).jy;have x:=(j.block _ dk).trans b4.J;exact⟨⟨(eS g).2.2.2.2.2.2.2,aA g⟩,(bQ x).1,(bQ x).2,aA x⟩))
        clear V m0 m1 m2 m3 m4 m5 m6 F G H I K L T U f0 f1 z0 z1;go_upto_region 12 with fail
        go_cut[11,73]from 64 to 72 (λ_ d7 v=>d7=.bool false/\t=v)
        (case first=>rcases TR with a5|⟨a5,h8⟩;all_goals rw[a5];go_wp2_with fail;go_meet;first|exact⟨rfl,rfl⟩|exact⟨by simp[h8],rfl⟩|exact⟨by simp_all,rfl⟩);case rest=>
        obtain⟨rfl,rfl⟩:=hcut;clear c7;go_wp2_with fail;go_cut[]from 74 to 250 (λv=>Hid (∃m k2 kP lo,δ t.heap.size t m/\t.heap.size<=lo/\lo<=m.heap.size/\fN m lo (.func (.func k2) #[] kP) (pK e.cy) (λrow=>jq e.cy row d)/\mK v 239 mg (o7 (ik pL.val c) (gk b.1 a.1) (χ #[ψ z B A,.func (.func k2) #[] kP]))/\m.grownBy v (σ mg)))
        (case first=>go_region_law(refine lL rfl 278 _ _ rfl call278 #[.iface C (zO d),ψ ca (Λ e.cy) nj] (by first|(simp[Act.eval];done)|(simp[Act.eval,Act.put];done)|rfl) _ (OG.J _ (aP (aj _ _))) ?_;rintro e' m ⟨v8,rfl,OJ,Y⟩;have da:=OJ;obtain⟨k2,kP,rfl,-⟩:=da;refine⟨_,rfl,?_⟩;have a7:Hid (δ t.heap.size t m):=ak ((aP (aj _ _)).trans Y);have cU:=ak Y.size;have cS:=ak OJ;obtain⟨w9,fb,hM,nA⟩:=KE.J m a7.J (χ #[ψ z B A,.func (.func k2) #[] kP]);have cy:=ak hM;have cr:=ak nA;obtain⟨⟨j0,j1⟩,j2,j3,j4⟩:=b0.J m a7.J;clear OJ Y hM nA);(all_goals(try go_wp2_with fail));(all_goals go_meet);all_goals exact ak ⟨m,k2,kP,_,a7.J,ae _,cU.J,cS.J,cy.J,cr.J⟩);case rest=>obtain⟨m,k2,kP,lo,Y,nX,dl,OJ,hM,nA⟩:=hcut.J;have d6:=HH.J.Ch.lt;have YC:k.heap.size+1≠mg:=(by omega);have d3:=Y.size;have QO:=(nA.block (k.heap.size+1) (by omega) (λd=>YC (bh d))).trans ((Y.block _ ci).trans b2.J);have zH:=QW.J;have dm:0<Λ i:=j9.mpr cl;have b3:Hid (adr e.cy (p,d)):=ak ⟨by show 0<Λ p;rw[zH.1];simp;omega,ay zH.2.1 h5,zH.2.2,G6,Dn.J⟩;have yr:=ak (λW9 (e9:W9=(wc.setCell ⟨k.heap.size+1,0,ν⟩ (ι κ 0)).setCell ⟨k.heap.size+1,1,ν⟩ (ι κ 0))=>ZO HH.J hu.1 ht.1 cK.J b5.J Y nA ci e9 cb.J (by omega) nX OJ hM b1.J b3.J BA.J);obtain⟨es,et⟩:=bQ QO;have y0:=jd QO 0;have y1:=jd QO 1;have eo:=aA QO;have cq:=ak QO;clear Y nX dl OJ hM nA d6 YC QO hcut d3 m7 n0 n1 M R OG KE b0 b4 a9 cb ck Dn BA b1 QW E HT zH dm b3;go_wp2_with fail;obtain⟨N,O⟩:=bQ (bq _ _ 1 _ _ (ι κ 0) (bq _ _ 0 _ _ (ι κ 0) cq.J));refine aE (tP results276 rfl N O) rfl ?_;exact yr.J _ rfl
      have y:decide (w.1≠0)=true:=(by simpa using ar);rw[y];have BA:Hid (vm (dD r c) b a i d o=(w,dD r c)):=ak (by rw[X.J,HG.J];exact adK (by rw[<- HG.J];exact ar) _ _);clear Vw ZS A7 bl an av bd a4 Hm a2 cf o0 o1 y al;go_wp2_with fail;obtain⟨⟨N,O⟩,d2⟩:=ie cx.J (dt _) cp.J (ι κ w.1) (ι κ w.2);refine aE (tP results276 rfl N O) rfl ?_;rw[BA.J];exact HH.J.same d2 w rfl
    obtain Hw:fX e.cy i []=.inl n:=(by rcases P with g|⟨p,-,x,-⟩;{exact g};rw[x]at ao;exact absurd rfl ao);rw[Hw]at X;have y:decide (n.1≠0)=true:=(by simpa using ao);rw[y];clear RN P SV gO BS N9 JF AV a3 Ls Le bc y Hw;go_wp2_with fail;obtain⟨⟨N,O⟩,d2⟩:=ie KC.J (dt _) co.J (ι κ n.1) (ι κ n.2);refine aE (tP results276 rfl N O) rfl ?_;rw[X.J];exact HH.J.same d2 n rfl
end
