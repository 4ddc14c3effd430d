import Derived.Test.YteniahoehoncjaaGreatDoorQAR
import Derived.Test.YteniahoehoncjaaGreatDoorQAD
set_option maxHeartbeats 99999999
set_option maxRecDepth 100000
namespace Go.Proofs.YteniahoehoncjaaGreatDoor
open Go.RowKit
namespace S
theorem LD (p k:Int)(cs:List Cl)(bs:List Nat)(w:World)(qi:Lays bs (gi p k cs))(hlen:cs.length<=64)(kW:nE p k cs=true)(mC:∀c∈cs,bZ c.n) :
 Calls Tryz.prog 117 #[.string (strOf bs)] w λe w'=>(∃v,e=.returned (.tuple #[.int .i64 k,v,.int .i64 0])/\w'.ownsRow w.heap.size 214 3 v cs.length (bw cs))/\Below w.heap.size w w':=by
 unfold nE at kW;simp only [Bool.and_eq_true,decide_eq_true_eq] at kW;obtain ⟨e1,e2,e3,e4,hg⟩:=OH qi kW.1.1 kW.1.2 kW.2.1.1 kW.2.1.2 hlen mC kW.2.2;have kd:(strOf bs).size<=140737488351232:=by
  rw [OC,qi.len];have h1:(gi p k cs).length<=24+20000:=by
   have hm:∀c∈cs,vY c:=λc h=>Bq (vZ (mC c h) (gH.1 kW.2.2 c h));unfold gi body;simp only [List.length_append,bk];have g1:=Ef k cs hm;have g2:=pU k cs hm;have g3:=pU k (nD cs) (λc h=>hm c (Em h));have g4:=zN cs;have g5:=sE (nD cs) cs;have g6:=QN (nD cs).length (by omega);have g7:cs.length*pw (nD cs).length<=64*8:=mO hlen g6;have El:=xo mC;have g8:=lu (DG El);have g9:=qW (cs.any λc=>c.null) k (leastOf (dr cs)) (bitLen (lW (dr cs))) cs g8 (λc h=>(hm c h).2);have g10:=lu (vV (qU El));split
   . omega
   . split
     . unfold uq;simp only [List.length_append,bk];omega
     . split
       . unfold ur
         simp only [List.length_append,List.length_cons,List.length_nil];have g11:(if k=1 then ([]:List Bool) else nC (leastOf (dr cs))++bitsOf (bitLen (lW (dr cs))) 7).length<=100:=by
          split
          . simp
          . rw [au,sC,bk];omega
         omega
       . omega
  omega
 refine (OI (strOf bs) w kd).mono ?_;rintro e w1 ⟨h1,h2⟩;refine ⟨?_,h2⟩;rcases h1 with ⟨_,v,rfl,ho⟩|⟨hn,_⟩
 . rw [e1,e2,e3,e4] at ho
   exact ⟨v,by rw [e2],ho⟩
 . exact absurd hg hn
end S
def ux (c:aL):S.Cl:=⟨c.null,c.n,c.s⟩
theorem VG (l:List aL):S.bw (l.map ux)=bw l:=by
 induction l with
 |nil=>rfl
 |cons c l ih=>
   have e:S.bw ((c::l).map ux)=[.bool c.null,.int .i64 c.n,.string c.s]++S.bw (l.map ux):=rfl;rw [e,ih];rfl
def VH (k:Nat)(c:aL):Prop:=S.bZ c.n/\S.okB k (ux c)=true
def Si (k:Nat)(l:List aL):Prop:=∀c∈l,VH k c
def Txt (k:Nat)(col:List aL)(s:ByteArray):Prop:=k<=2/\col.length<=64/\Si k col/\∃(bs:List Nat) (p:Int),0<=p/\p<=3/\S.Lays bs (S.gi p k (col.map ux))/\s=S.strOf bs
theorem QX {k:Nat}{col:List aL}(h:Si k col):(col.map ux).all (S.okB k)=true:=by
 rw [gH];intro c hc;obtain ⟨d,hd,rfl⟩:=dv.mp hc;exact (h d hd).2
theorem VI {k:Nat}{col:List aL}(h:Si k col):∀c∈col.map ux,S.bZ c.n:=by
 intro c hc;obtain ⟨d,hd,rfl⟩:=dv.mp hc;exact (h d hd).1
theorem OM {k:Nat}{col:List aL}{s:ByteArray}(h:Txt k col s)(w:World):Calls Tryz.prog 117 #[.string s] w λe w'=>∃v,e=.returned (.tuple #[.int .i64 k,v,.int .i64 0])/\w'.ownsRow w.heap.size 214 3 v col.length (bw col)/\Below w.heap.size w w':=by
 obtain ⟨hk,hl,hf,bs,p,h0,h3,qi,rfl⟩:=h;refine (S.LD p k (col.map ux) bs w qi (by simpa using hl) (by unfold S.nE;rw [QX hf];simp;omega) (VI hf)).mono ?_;rintro e w' ⟨⟨v,rfl,ho⟩,hb⟩;rw [VG,aW] at ho;exact ⟨v,rfl,ho,hb⟩
theorem EN {k:Nat}{c:aL}(h:VH k c):c.s.size<=12:=(S.Bq (S.vZ (c:=ux c) h.1 h.2)).2
theorem VJ {p:Int}{k:Nat}{col:List aL}{v:Value}{w:World}(h0:0<=p)(h3:p<=3)(hk:k<=2)(hl:col.length<=64)(hf:Si k col)(hc:lD w v col):Calls Tryz.prog 140 #[.int .i64 p,.int .i64 k,v] w λe w'=>∃s,e=.returned (.tuple #[.string s,.int .i64 0])/\Txt k col s/\Below w.heap.size w w':=by
 have hs:∀c∈col.map ux,c.s.size<=140737488351232:=λc hc=>by
  obtain ⟨d,hd,rfl⟩:=dv.mp hc;have:=EN (hf d hd);exact aw this (by decide)
 have key:∀(a:Option Addr) (b off cap:Nat),v=.slice a col.length cap->(0<(col.map ux).length->a=some ⟨b,off,none⟩)->S.gT w b off (col.map ux)->col.length<=cap->Calls Tryz.prog 140 #[.int .i64 p,.int .i64 k,v] w λe w'=>∃s,e=.returned (.tuple #[.string s,.int .i64 0])/\Txt k col s/\Below w.heap.size w w':=by
  rintro a b off cap rfl ha hC GH;have:=S.sZ p k (col.map ux) a b off cap w ha hC (by simpa using GH) (by simpa using hl) (VI hf) hs h0 h3 (by omega) (by omega) (QX hf);rw [aW] at this;refine this.mono ?_;rintro e w' ⟨⟨bs,qi,rfl⟩,hb⟩;exact ⟨_,rfl,⟨hk,hl,hf,bs,p,h0,h3,qi,rfl⟩,hb⟩
 rcases hc.2 with ⟨hz,a,c,hv⟩|⟨g,o,cap,hv,hn,-,hx⟩
 . have e:col=[]:=fT hz
   refine key a 0 0 c (by rw [hv,hz]) (λh=>by simp [e] at h) (λi c h=>by simp [e] at h) (by omega)
 . refine key (some ⟨g,o,none⟩) g o cap hv (λ_=>rfl) (λi c hi=>?_) hn
   rw [a7] at hi
   cases hd:col[i]? with
   |none=>rw [hd] at hi;cases hi
   |some d=>
     rw [hd] at hi
     cases hi
     obtain ⟨g2,o2,uy,hv2,e0,e1,e2⟩:=lD.get hc hd;rw [hv] at hv2
     cases hv2
     exact ⟨e0,e1,e2⟩
abbrev pF:Value:=.slice none 0 0
structure po (w:World)(base:Nat)(vs:List Value)(L:List (List aL)):Prop where
 len:vs.length=L.length
 own:∀(i:Nat) (u:Value) (c:List aL),vs[i]?=some u->L[i]?=some c->w.ownsRow base 214 3 u c.length (bw c)
 apart:∀(i j:Nat) (u u':Value) (g:Nat),i≠j->vs[i]?=some u->vs[j]?=some u'->u.ownBlock=some g->u'.ownBlock≠some g
section
variable {w w':World} {base:Nat} {vs:List Value} {L:List (List aL)}
theorem po.at (h:po w base vs L){i:Nat}{u:Value}(hi:vs[i]?=some u):∃c,L[i]?=some c/\w.ownsRow base 214 3 u c.length (bw c):=by
 have hl:=(ak.mp hi).1;rw [h.len] at hl;exact ⟨L[i],ah hl,h.own i u _ hi (ah hl)⟩
theorem po.lt (h:po w base vs L){i:Nat}{u:Value}{g:Nat}(hi:vs[i]?=some u)(hg:u.ownBlock=some g):base<=g/\g<w.heap.size:=by
 obtain ⟨c,-,ho⟩:=h.at hi;exact ho.lt g hg
theorem po.below (h:po w base vs L)(hb:Below w.heap.size w w'):po w' base vs L:=⟨h.len,λi u c h1 h2=>du (h.own i u c h1 h2) hb,h.apart⟩
theorem po.kept (h:po w base vs L){row:Option Nat}(hg:w.grownBy w' row)(iq:∀(i:Nat) (u:Value) (k:Nat),row=some k->vs[i]?=some u->u.ownBlock≠some k):po w' base vs L:=
 ⟨h.len,λi u c h1 h2=>dJ (h.own i u c h1 h2) hg (λk hk=>iq i u k hk h1),h.apart⟩
theorem po.set (h:po w base vs L){i:Nat}{u:Value}{c:List aL}(ho:w'.ownsRow base 214 3 u c.length (bw c))(hk:∀(j:Nat) (x:Value) (y:List aL),j≠i->vs[j]?=some x->L[j]?=some y->w'.ownsRow base 214 3 x y.length (bw y))(hd:∀(j:Nat) (x:Value) (g:Nat),j≠i->vs[j]?=some x->u.ownBlock=some g->x.ownBlock≠some g):po w' base (vs.set i u) (L.set i c):=by
 refine ⟨by simp [h.len],λj x y h1 h2=>?_,λj k x y g YB h1 h2 hg=>?_⟩
 . rw [bq] at h1 h2
   by_cases VK:i=j
   . subst VK
     rw [aH rfl] at h1 h2;split at h1
     . split at h2
       . cases h1;cases h2;exact ho
       . cases h2
     . cases h1
   . rw [aA VK] at h1 h2
     exact hk j x y (λe=>VK e.symm) h1 h2
 . rw [bq] at h1 h2
   by_cases VK:i=j
   . subst VK
     rw [aH rfl] at h1;rw [aA YB] at h2;split at h1
     . cases h1;exact hd k y g (λe=>YB e.symm) h2 hg
     . cases h1
   . rw [aA VK] at h1
     by_cases hik:i=k
     . subst hik
       rw [aH rfl] at h2;split at h2
       . cases h2
         intro e;exact hd j x g (λe=>VK e.symm) h1 e hg
       . cases h2
     . rw [aA hik] at h2
       exact h.apart j k x y g YB h1 h2 hg
theorem po.cells (h:po w base vs L){i:Nat}{c:List aL}(hi:L[i]?=some c):∃u,vs[i]?=some u/\lD w u c:=by
 have hl:=(ak.mp hi).1;rw [<- h.len] at hl;exact ⟨vs[i],ah hl,bF.jt (h.own i _ c (ah hl) hi)⟩
theorem OO (w:World)(base n:Nat):po w base (List.replicate n pF) (List.replicate n []):=by
 refine ⟨by simp,λi u c h1 h2=>?_,λi j u u' g _ h1 h2 hg=>?_⟩
 . rw [cK] at h1 h2
   split at h1
   . rw [aH (by assumption)] at h2
     cases h1;cases h2;exact ia _ _ _ _
   . cases h1
 . rw [cK] at h1
   split at h1
   . cases h1;cases hg
   . cases h1
end
structure oH (w:World)(base:Nat)(v:Value)(vs:List Value)(L:List (List aL)):Prop where
 row:w.ownsRow base 198 1 v L.length vs
 each:po w base vs L
 off:∀(i:Nat) (u:Value) (g:Nat),vs[i]?=some u->u.ownBlock=some g->v.ownBlock≠some g
theorem oH.batch {w:World}{base:Nat}{v:Value}{vs:List Value}{L:List (List aL)}(h:oH w base v vs L):iC w v L:=⟨vs,bF.jt h.row,λ_ _ hi=>h.each.cells hi⟩
def Bx (w:World)(v:Value)(ss:List ByteArray):Prop:=bF w 1 v ss.length (ss.map .string)
theorem Bx.get {w:World}{v:Value}{l:List ByteArray}(h:Bx w v l){i:Nat}{s:ByteArray}(hi:l[i]?=some s):∃g o cap,v=.slice (some ⟨g,o,none⟩) l.length cap/\w.cell? ⟨g,o+i,none⟩=some (.string s):=by
 obtain ⟨g,o,cap,hv,-,-,hx⟩:=bF.at h (cW (aN _) (ak.mp hi).1);exact ⟨g,o,cap,hv,hx i _ (by rw [a7,hi];rfl)⟩
def Sj (ks:List Nat)(L:List (List aL))(ss:List ByteArray):Prop:=ks.length=ss.length/\L.length=ss.length/\∀(i:Nat) (k:Nat) (c:List aL) (s:ByteArray),ks[i]?=some k->L[i]?=some c->ss[i]?=some s->Txt k c s
theorem Tryz.pG:(Tryz.prog.info? 198).map (λi=>(i.zero,i.size,i.bytes))=some (some (.slice none 0 0),1,24):=by kernel_rfl
theorem qQ (n:Nat):(madeCells (Value.slice none 0 0).cells n).toList=List.replicate n pF:=by
 have:=xC (f:=λu:Value=>[u]) (k:=1) (λ_=>rfl) pF pF rfl (by decide) n;simpa using this
def zZ (L:List (List aL))(i:Nat):List (List aL):=L.take i++List.replicate (L.length - i) []
theorem By (L:List (List aL)){i:Nat}(h:i<=L.length):(zZ L i).length=L.length:=by simp [zZ];omega
theorem Sk {L:List (List aL)}{i:Nat}{c:List aL}(h:L[i]?=some c):(zZ L i).set i c=zZ L (i+1):=by
 obtain ⟨cF,hr⟩:=ak.mp h;unfold zZ;have hl:(L.take i).length=i:=by simp;omega
 rw [show L.length - i=(L.length - (i+1))+1 by omega,fQ,dO _ _ (by omega),hl,cM,iM,dW,h];simp
theorem oH.put {w w1:World}{base g n cap:Nat}{vs:List Value}{L:List (List aL)}{i:Nat}{u:Value}{c:List aL}(h:oH w base (.slice (some ⟨g,0,none⟩) n cap) vs L)(hn:L.length=n)(hb:Below w.heap.size w w1)(ho:w1.ownsRow w.heap.size 214 3 u c.length (bw c))(qv:base<=w.heap.size):oH (w1.setCell ⟨g,i,none⟩ u) base (.slice (some ⟨g,0,none⟩) n cap) (vs.set i u) (L.set i c):=by
 have gC:=du h.row hb;rw [hn] at gC;have hg:=(h.row.lt g rfl).2;have iP:=(gC.stored i u).1;have iu:=grownBy_setCell w1 ⟨g,i,none⟩ u;have VL:∀k,u.ownBlock=some k->w.heap.size<=k:=λk hk=>(ho.lt k hk).1;refine ⟨by rw [iz,hn];exact iP,(h.each.below hb).set (dJ (cL ho qv) iu (λk hk e=>?_)) (λj x y hj h1 h2=>dJ ((h.each.below hb).own j x y h1 h2) iu (λk hk e=>?_)) (λj x k hj h1 hk e=>?_),λj x k h1 hk e=>?_⟩
 . cases hk;have:=VL g e;omega
 . cases hk;exact h.off j x g h1 e rfl
 . have:=(h.each.lt h1 e).2;have:=VL k hk;omega
 . rw [bq] at h1
   split at h1
   . split at h1
     . cases h1;have:=VL k hk;simp [Value.ownBlock] at e;omega
     . cases h1
   . exact h.off j x k h1 hk e
theorem Aa {w:World}{v:Value}{ks:List Nat}{L:List (List aL)}{ss:List ByteArray}(hv:Bx w v ss)(hs:Sj ks L ss)(h5:ss.length<=1000):Calls Tryz.prog 84 #[v] w λr w'=>∃v vs,r=.returned v/\oH w' w.heap.size v vs L/\Below w.heap.size w w':=by
 obtain ⟨i0,yv,jS,jD,jv⟩:=lE Tryz.pG;have HV:=hide hv;have HS:=hide hs;obtain ⟨va,cJ,he⟩:=bF.slice hv;subst he;have hLs:=hs.2.1;clear hv hs;go_enter Tryz.func84,Tryz.ntmps84;go_wp2_with (at_make;refine dw _ rfl _ _ 148 rfl w.heap.size 198 i0 _ 1 Tryz.underlying148 yv jS jD _ _ _ _ ss.length rfl rfl rfl rfl (by rw [jv];omega) (by unfold maxLen;omega) (by simp) ?_;intro w1 br bE);rw [kK,qQ] at br;have bL:Below w.heap.size w w1:=(ag _ _).grown bE (af _) (by simp);have HO:Hid (oH w1 w.heap.size (.slice (some ⟨w.heap.size,0,none⟩) ss.length ss.length) (List.replicate ss.length pF) (zZ L 0)):=hide ⟨by rw [By L (aN _),hLs];exact br,by unfold zZ;rw [ll,oZ,fA,hLs];exact OO _ _ _,λi u g h1 h2=>by
  rw [cK] at h1;split at h1
  . cases h1;cases h2
  . cases h1⟩
 have eI:=hide bL;clear br bE bL yv jS jD jv;go_wp2_with fail;go_loopw [10] (λc wr=>∃(i:Nat) (vs:List Value),i<=ss.length/\c=.int .i64 i/\Hid (oH wr w.heap.size (.slice (some ⟨w.heap.size,0,none⟩) ss.length ss.length) vs (zZ L i))/\Hid (Below w.heap.size w wr)) (λc _=>ss.length - (intOf c).toNat)
 case atStart=>exact ⟨0,_,aN _,rfl,HO,eI⟩
 case round=>
  obtain ⟨i,vs,hi,rfl,K7,qx⟩:=hrel;by_cases cF:i<ss.length
  . have jI:(i:Int)<ss.length:=by omega
    obtain ⟨s,hsi⟩:∃s,ss[i]?=some s:=⟨ss[i],ah cF⟩;obtain ⟨c,kM⟩:∃c,L[i]?=some c:=⟨L[i],ah (by omega)⟩;obtain ⟨k,LG⟩:∃k,ks[i]?=some k:=⟨ks[i]'(by rw [(ae HS).1];exact cF),ah _⟩;obtain ⟨g,o,cap,he,c0⟩:=Bx.get (bF.below (ae HV) (ae qx) (af _)) hsi
    cases he
    have HU:=hide (OM ((ae HS).2.2 i k c s LG kM hsi) wr);have QY:=hide kM;clear hsi kM LG;go_wp2_with fail;refine (ae HU).mono ?_;rintro r w2 ⟨u,rfl,ho,bO⟩;have yO:=(ae K7).put (i:=i) (By L (by omega) |>.trans hLs) bO ho (ae qx).size;rw [Sk (ae QY)] at yO;have HN:=hide yO;have jg:=hide ((ae qx).trans (bO.mono (ae qx).size));have gC:=du (ae K7).row bO;rw [By L (by omega),hLs] at gC;have fz:=gC.frozenAt i;obtain ⟨x,hx⟩:∃x,w2.cell? ⟨w.heap.size,i,none⟩=some x:=by
     have:=gC.cellAt i (by omega);rw [this,ah (by have:=gC.1;omega)];exact ⟨_,rfl⟩
    obtain ⟨ua,td,rfl,-,-⟩:=di ho;clear yO ho bO gC HU;go_wp2_with fail;go_roundw
    case rel=>exact ⟨i+1,_,by omega,by go_num,HN,hide ((ae jg).setCell (af _) _)⟩
    case measure=>simp [intOf];omega
  . obtain rfl:i=ss.length:=by omega
    have ho:=ae K7;unfold zZ at ho;rw [<- hLs,cM,fI,dp,bH] at ho;have JW:=hide ho;clear ho;go_wp2_with fail;go_ret;exact ⟨_,_,rfl,by rw [<- hLs];exact ae JW,ae qx⟩
def EO (a b:Nat)(c:List aL):List aL:=(c.drop a).take (b - a)
def Bz (a b:Nat)(L:List (List aL)):List (List aL):=L.map (EO a b)
theorem VM {a b:Nat}{c:List aL}(h2:b<=c.length):(EO a b c).length=b - a:=by simp [EO];omega
theorem OP {a b:Nat}{c:List aL}{j:Nat}(h:j<(b - a)*3)(h2:b<=c.length):(bw (EO a b c))[j]?=(bw c)[a*3+j]?:=by
 have hd:j / 3<b - a:=by omega
 obtain ⟨x,hx⟩:∃x,c[a+j / 3]?=some x:=⟨c[a+j / 3]'(by omega),ah _⟩;have e1:=dc nw 3 pE (EO a b c) (i:=j / 3) (a:=x) (by unfold EO;rw [fy,aH hd,gx];exact hx) (j:=j % 3) (by omega);have e2:=dc nw 3 pE c hx (j:=j % 3) (by omega);rw [show j / 3*3+j % 3=j by omega] at e1;rw [show (a+j / 3)*3+j % 3=a*3+j by omega] at e2;exact e1.trans e2.symm
theorem lD.cut {w:World}{g o n cap:Nat}{c:List aL}{a b:Nat}(h:lD w (.slice (some ⟨g,o,none⟩) n cap) c)(Iw:a<b)(h2:b<=c.length):lD w (.slice (some ⟨g,o+a*3,none⟩) (b - a) (cap - a)) (EO a b c):=by
 have hl:=VM (a:=a) h2;refine ⟨by unfold bw;rw [q9 nw 3 pE],.inr ?_⟩;rcases h.2 with ⟨hz,-⟩|⟨g2,o2,uy,hv,hn,hg,hx⟩
 . omega
 . cases hv
   refine ⟨g,o+a*3,cap - a,by rw [hl],by omega,hg,λj hj=>?_⟩;rw [hl] at hj;rw [OP hj h2,<- hx (a*3+j) (by omega)];congr 2;omega
theorem iC.OQ {w:World}{v:Value}{b:List (List aL)}(h:iC w v b){i:Nat}{cs:List aL}(hi:b[i]?=some cs):∃g o cap u,v=.slice (some ⟨g,o,none⟩) b.length cap/\g<w.heap.size/\w.cell? ⟨g,o+i,none⟩=some u/\lD w u cs:=by
 obtain ⟨vs,h1,h2⟩:=h;obtain ⟨u,h3,h4⟩:=h2 i cs hi;obtain ⟨g,o,cap,hv,-,hg,hx⟩:=h1.at (cW (aN _) (ak.mp hi).1);exact ⟨g,o,cap,u,hv,hg,hx i u h3,h4⟩
theorem Ab {n i:Nat}{vs:List Value}{u z:Value}(hv:vs.length=i)(hi:i<n):(vs++List.replicate (n - i) z).set i u=(vs++[u])++List.replicate (n - (i+1)) z:=by
 rw [show n - i=(n - (i+1))+1 by omega,fQ,dO _ _ (by omega),hv,cM,iM];simp
theorem ZH {w:World}{v:Value}{L:List (List aL)}{a b:Nat}(hv:iC w v L)(Iw:a<b)(hb:∀c∈L,b<=c.length)(h5:L.length<=1000):Calls Tryz.prog 86 #[v,.int .i64 a,.int .i64 b] w λr w'=>∃v,r=.returned v/\iC w' v (Bz a b L)/\Below w.heap.size w w':=by
 obtain ⟨i0,yv,jS,jD,jv⟩:=lE Tryz.pG;have HV:=hide hv;have HC:=hide hb;obtain ⟨va,cJ,he⟩:=hv.slice;subst he;clear hv hb;go_enter Tryz.func86,Tryz.ntmps86;go_wp2_with (at_make;refine dw _ rfl _ _ 148 rfl w.heap.size 198 i0 _ 1 Tryz.underlying148 yv jS jD _ _ _ _ L.length rfl rfl rfl rfl (by rw [jv];omega) (by unfold maxLen;omega) (by simp) ?_;intro w1 br bE);rw [kK,qQ] at br;have eI:Hid (Below w.heap.size w w1):=hide ((ag _ _).grown bE (af _) (by simp));have HO:=hide br;clear br bE yv jS jD jv;go_wp2_with fail;go_loopw [14] (λc wr=>∃(i:Nat) (vs:List Value),i<=L.length/\c=.int .i64 i/\vs.length=i/\Hid (wr.ownsRow w.heap.size 198 1 (.slice (some ⟨w.heap.size,0,none⟩) L.length L.length) L.length (vs++List.replicate (L.length - i) pF))/\Hid (∀(j:Nat) (u:Value) (c:List aL),vs[j]?=some u->L[j]?=some c->lD w u (EO a b c))/\Hid (Below w.heap.size w wr)) (λc _=>L.length - (intOf c).toNat)
 case atStart=>exact ⟨0,[],aN _,rfl,rfl,by rw [oZ,fA];exact HO,hide (λj u c h=>by simp at h),eI⟩
 case round=>
  obtain ⟨i,vs,hi,rfl,G7,K7,QY,qx⟩:=hrel;by_cases cF:i<L.length
  . have jI:(i:Int)<L.length:=by omega
    obtain ⟨c,kM⟩:∃c,L[i]?=some c:=⟨L[i],ah cF⟩;have vQ:=ae HC c (aG kM);obtain ⟨g,o,cap,u,he,LH,d0,Yz⟩:=(ae HV).OQ kM
    cases he
    have c0:=((ae qx).cell (p:=⟨g,o+i,none⟩) LH).trans d0;obtain ⟨x,Y9⟩:∃x,c[a]?=some x:=⟨c[a]'(by omega),ah _⟩;obtain ⟨g3,o3,G8,rfl,-⟩:=Yz.get Y9;have GH:c.length<=G8:=by
     rcases Yz.2 with ⟨hz,-⟩|⟨_,_,_,hv,hn,-⟩
     . omega
     . cases hv;exact hn
    have HCU:=hide (Yz.cut Iw vQ);have fN:(b:Int)<=c.length:=by omega
    have ag4:(b:Int)<=G8:=by omega
    have amv:(a:Int)<=b:=by omega
    have adg:=hide kM;have gC:=ae K7;have fz:=gC.frozenAt i;have d1:=gC.cellAt i (by omega);rw [bm (by omega),cK,aH (by omega)] at d1;have iP:=(gC.stored i (.slice (some ⟨g3,o3+a*3,none⟩) (b - a) (G8 - a))).1;rw [Ab G7 cF] at iP;have pC:=hide iP;clear kM Yz Y9 gC d0 iP;go_wp2_with fail;refine ⟨⟨i+1,vs++[_],by omega,by go_num,by simp [G7],pC,hide (λj u c h1 h2=>?_),hide ((ae qx).setCell (af _) _)⟩,by simp [intOf];omega⟩;rw [jc] at h1;split at h1
    . exact ae QY j u c h1 h2
    . have hj:j=i:=by
       have:=(ak.mp h1).1;simp at this;omega
      subst hj;rw [G7,cM] at h1
      cases h1
      rw [ae adg] at h2
      cases h2
      exact ae HCU
  . obtain rfl:i=L.length:=by omega
    have ho:=ae K7;rw [cM,dp,bH] at ho;have HR:Hid (iC wr (.slice (some ⟨w.heap.size,0,none⟩) L.length L.length) (Bz a b L)):=hide (by
     refine ⟨vs,by unfold Bz;rw [aW];exact bF.jt ho,λj c hj=>?_⟩;unfold Bz at hj;rw [a7] at hj
     cases hc:L[j]? with
     |none=>rw [hc] at hj;cases hj
     |some d=>
       rw [hc] at hj
       cases hj
       have hjl:=(ak.mp hc).1;exact ⟨vs[j],ah (by omega),bF.below (ae QY j _ d (ah (by omega)) hc) (ae qx) (af _)⟩)
    clear ho;go_wp2_with fail;go_ret;exact ⟨_,rfl,ae HR,ae qx⟩
theorem Tryz.VN:(Tryz.prog.info? 9).map (λi=>(i.zero,i.size,i.bytes))=some (some (.string ⟨#[]⟩),1,16):=by kernel_rfl
theorem aR {w1:World}{r:Nat}{a b c:Value}{t:TypeId}(h:w1.heap[r]?=some (.cells #[a,b,c] t (0,0))):w1.cell? ⟨r,0,none⟩=some a/\w1.cell? ⟨r,1,none⟩=some b/\w1.cell? ⟨r,2,none⟩=some c:=by simp [World.cell?,h]
theorem Sl (n:Nat):(madeCells (Value.string ⟨#[]⟩).cells n).toList=List.replicate n (.string ⟨#[]⟩):=by
 have:=xC (f:=λu:Value=>[u]) (k:=1) (λ_=>rfl) (.string ⟨#[]⟩) (.string ⟨#[]⟩) rfl (by decide) n;simpa using this
theorem OT {w:World}{q:Nat}{n:Int}{cv sv bv:Value}{cols:List cU}{L:List (List aL)}{p:Int}(ht:w.heap[q]?=some (.cells #[cv,sv,.int .i64 n] 194 (0,0)))(hc:gq w cv cols)(hv:iC w bv L)(hL:L.length=cols.length)(hk:∀c∈cols,c.2<=2)(hf:∀(i:Nat) (col:List aL) (k:cU),L[i]?=some col->cols[i]?=some k->Si k.2 col)(hl:∀col∈L,col.length<=64)(h0:0<=p)(h3:p<=3)(h5:L.length<=1000) :
 Calls Tryz.prog 228 #[.pointer (some ⟨q,0,none⟩),bv,.int .i64 p] w λr w'=>∃v ss,r=.returned v/\w'.ownsRow w.heap.size 9 1 v ss.length (ss.map .string)/\Sj (cols.map (·.2)) L ss/\Below w.heap.size w w':=by
 obtain ⟨i0,yv,jS,jD,jv⟩:=lE Tryz.VN;have HT:=hide ht;have HC:=hide hc;have HV:=hide hv;have HF:=hide hf;have HK:=hide hk;have HL:=hide hl;have BA:=az ht;obtain ⟨ca,kV,he⟩:=hc.slice;subst he;obtain ⟨va,cJ,he⟩:=hv.slice;subst he;have DL:=hide hL;clear hv hc ht hf hk hl hL;go_enter Tryz.func228,Tryz.ntmps228;go_wp2_with (at_make;refine dw _ rfl _ _ 196 rfl w.heap.size 9 i0 _ 1 Tryz.underlying196 yv jS jD _ _ _ _ L.length rfl rfl rfl rfl (by rw [jv];omega) (by unfold maxLen;omega) (by simp) ?_;intro w1 br bE);rw [kK,Sl] at br;have eI:Hid (Below w.heap.size w w1):=hide ((ag _ _).grown bE (af _) (by simp));have HO:=hide br;clear br bE yv jS jD jv;go_wp2_with fail;go_loopw [14] (λc wr=>∃(i:Nat) (ss:List ByteArray),i<=L.length/\c=.int .i64 i/\ss.length=i/\Hid (wr.ownsRow w.heap.size 9 1 (.slice (some ⟨w.heap.size,0,none⟩) L.length L.length) L.length (ss.map .string++List.replicate (L.length - i) (.string ⟨#[]⟩)))/\Hid (∀(j:Nat) (k:cU) (c:List aL) (s:ByteArray),cols[j]?=some k->L[j]?=some c->ss[j]?=some s->Txt k.2 c s)/\Hid (Below w.heap.size w wr)) (λc _=>L.length - (intOf c).toNat)
 case atStart=>exact ⟨0,[],aN _,rfl,rfl,by rw [oZ,qP,fA];exact HO,hide (λj u c s h h1 h2=>by simp at h2),eI⟩
 case round=>
  obtain ⟨i,ss,hi,rfl,hsl,K7,HTI,qx⟩:=hrel;by_cases cF:i<L.length
  . have jI:(i:Int)<L.length:=by omega
    have amw:(i:Int)<cols.length:=by have:=ae DL;omega
    obtain ⟨c,kM⟩:∃c,L[i]?=some c:=⟨L[i],ah cF⟩;obtain ⟨k,LG⟩:∃k,cols[i]?=some k:=⟨cols[i]'(by have:=ae DL;omega),ah _⟩;obtain ⟨g,o,cap,u,he,LH,d0,hu⟩:=(ae HV).OQ kM
    cases he
    have c0:=((ae qx).cell (p:=⟨g,o+i,none⟩) LH).trans d0;have hcb:lD wr.drew u c:=bF.below hu (aJ (ae qx)) (af _);obtain ⟨kg,ko,iG,he,k0,k1⟩:=gq.get ((ae HC).below (ae qx) (af _)) LG
    cases he
    obtain ⟨t0,t1,t2⟩:=aR (((ae qx).block q BA).trans (ae HT));have HP:=hide (VJ (w:=wr.drew) h0 h3 (ae HK k (aG LG)) (ae HL c (aG kM)) (ae HF i c k kM LG) hcb);obtain ⟨ua,td,he⟩:=bF.slice hu;subst he;have QY:=hide kM;have HKI:=hide LG;clear kM LG hu d0 hcb;go_wp2_with fail;go_region_with (go_at_call 140;refine (ae HP).mono ?_;rintro r w2 ⟨s,rfl,htx,bO⟩;have eD:=(aJ (ag wr.heap.size wr)).trans bO;have gC:=du (ae K7) eD;have fz:=gC.frozenAt i;have d1:=gC.cellAt i (by omega);rw [bm (by simp;omega),cK,aH (by simp;omega)] at d1;have iP:=(gC.stored i (.string s)).1;rw [Ab (by simp [hsl]) cF] at iP;have pC:=hide iP;have HTX:=hide htx;have px:=hide ((ae qx).trans (eD.mono (ae qx).size));clear bO eD gC iP htx)
    all_goals
     (try go_wp2_with fail)
     refine ⟨⟨i+1,ss++[s],by omega,by go_num,by simp [hsl],by rw [fB];exact pC,hide (λj k c s h1 h2 h3=>?_),hide ((ae px).setCell (af _) _)⟩,by simp [intOf];omega⟩;rw [jc] at h3;split at h3
     . exact ae HTI j k c s h1 h2 h3
     . have hj:j=i:=by
        have:=(ak.mp h3).1;simp at this;omega
       subst hj;rw [hsl,cM] at h3
       cases h3
       rw [ae QY] at h2;rw [ae HKI] at h1
       cases h2
       cases h1
       exact ae HTX
  . obtain rfl:i=L.length:=by omega
    have ho:=ae K7;rw [cM,dp,bH] at ho;have HR:=hide ho;have HSG:Hid (Sj (cols.map (·.2)) L ss):=hide ⟨by rw [aW,hsl];exact (ae DL).symm,hsl.symm,λj k c s h1 h2 h3=>by
     rw [a7] at h1
     cases hk:cols[j]? with
     |none=>rw [hk] at h1;cases h1
     |some d=>rw [hk] at h1;cases h1;exact ae HTI j d c s hk h2 h3⟩
    clear ho;go_wp2_with fail;go_ret;exact ⟨_,ss,rfl,by rw [hsl];exact ae HR,ae HSG,ae qx⟩
theorem Sy (n:Nat):(madeCells (Value.int .i64 0).cells n).toList=List.replicate n (.int .i64 0):=by
 have:=xC (f:=λu:Value=>[u]) (k:=1) (λ_=>rfl) (.int .i64 0) (.int .i64 0) rfl (by decide) n;simpa using this
theorem LP (n:Nat)(hn:n<=1000)(w:World):Calls Tryz.prog 114 #[.int .i64 n] w λr w'=>∃v,r=.returned v/\w'.ownsRow w.heap.size 3 1 v n ((List.range n).map kZ)/\Below w.heap.size w w':=by
 obtain ⟨i0,yv,jS,jD,jv⟩:=lE Tryz.Ae;go_enter Tryz.func114,Tryz.ntmps114;go_wp2_with (at_make;refine dw _ rfl _ _ 36 rfl w.heap.size 3 i0 _ 1 Tryz.underlying36 yv jS jD _ _ _ _ n rfl rfl rfl rfl (by rw [jv];omega) (by unfold maxLen;omega) (by simp) ?_;intro w1 br bE);rw [kK,Sy] at br;have eI:Hid (Below w.heap.size w w1):=hide ((ag _ _).grown bE (af _) (by simp));have HO:=hide br;clear br bE yv jS jD jv;go_wp2_with fail;go_loopw [9] (λc wr=>∃i:Nat,i<=n/\c=.int .i64 i/\Hid (wr.ownsRow w.heap.size 3 1 (.slice (some ⟨w.heap.size,0,none⟩) n n) n ((List.range i).map kZ++List.replicate (n - i) (.int .i64 0)))/\Hid (Below w.heap.size w wr)) (λc _=>n - (intOf c).toNat)
 case atStart=>exact ⟨0,aN _,rfl,by simpa using HO,eI⟩
 case round=>
  obtain ⟨i,hi,rfl,K7,qx⟩:=hrel;by_cases cF:i<n
  . have jI:(i:Int)<n:=by omega
    have gC:=ae K7;have fz:=gC.frozenAt i;have d1:=gC.cellAt i (by omega);rw [bm (by simp),cK,aH (by simp;omega)] at d1;have iP:=(gC.stored i (.int .i64 i)).1;rw [Ab (by simp) cF] at iP;have pC:=hide (show (wr.setCell ⟨w.heap.size,i,none⟩ (.int .i64 i)).ownsRow w.heap.size 3 1 (.slice (some ⟨w.heap.size,0,none⟩) n n) n ((List.range (i+1)).map kZ++List.replicate (n - (i+1)) (.int .i64 0)) from by rw [qt,fB];exact iP);clear gC iP;go_wp2_with fail;exact ⟨⟨i+1,by omega,by go_num,pC,hide ((ae qx).setCell (af _) _)⟩,by simp [intOf];omega⟩
  . obtain rfl:i=n:=by omega
    have ho:=ae K7;rw [cM,dp,bH] at ho;have JW:=hide ho;clear ho;go_wp2_with fail;go_ret;exact ⟨_,rfl,ae JW,ae qx⟩
theorem k9 (k:Nat)(iJ:Array Value)(a:Addr)(m:Go.Mode)(w:World):(store a (.func (.func k) #[] iJ) m).run Tryz.prog w=stored Tryz.prog w a (.func (.func k) #[] iJ) m:=run_store Tryz.prog w a _ m rfl
theorem ef.set {a:World}{lo r i:Nat}{u fv:Value}{ok:List aL->Prop}{F:List aL->dQ}(h:ef a lo fv ok F)(hr:r<lo):ef (a.setCell ⟨r,i,none⟩ u) lo fv ok F:=by
 obtain ⟨n,iJ,hv,hE,hC⟩:=h;refine ⟨n,iJ,hv,hE,λb hb=>hC b ⟨?_,λk h1 h2=>?_⟩⟩
 . have:=hb.1;simpa [World.setCell] using this
 . exact (hb.2 k h1 (by simpa [World.setCell] using h2)).trans (aD _ _ _ _ (show k≠r by omega))
theorem EP {w:World}{q:Nat}{n:Int}{cv sv:Value}{cols:List cU}(ht:w.heap[q]?=some (.cells #[cv,sv,.int .i64 n] 194 (0,0)))(hc:gq w cv cols)(h5:cols.length<=5)(ok:List aL->Prop) :
 Calls Tryz.prog 83 #[.pointer (some ⟨q,0,none⟩)] w λr w'=>∃v wv lo,r=.returned (.agg #[v,wv])/\kF w' v (List.range cols.length)/\ef w' lo wv ok (λ_=>.inl (oA 1))/\w.heap.size<lo/\Below w.heap.size w w':=by
 obtain ⟨ca,kV,he⟩:=hc.slice;subst he;have kX:Below w.heap.size w (w.alloc (.cells #[.slice none 0 0,.nilFunc] 139)):=(ag _ _).alloc (af _) _;obtain ⟨t0,t1,t2⟩:=aR ((kX.block q (az ht)).trans ht);have BA:=az ht;have GU:=hide (ai w (.cells #[.slice none 0 0,.nilFunc] 139));have wE:=hide kX;clear ht hc kX;go_enter Tryz.func83,Tryz.ntmps83;go_wp2_with fail;refine (LP cols.length (by omega) _).mono ?_;rintro r w1 ⟨v,rfl,hv,bL⟩;obtain ⟨va,cJ,rfl,-,-⟩:=di hv;have oq:=(ae wE).trans (bL.mono (ae wE).size);have HF:=hide (wC (w:=w1) (lo:=w1.heap.size) (fv:=.func (.func 116) #[] #[]) (ok:=ok) (G:=λ_=>oA 1) ⟨_,_,rfl,Tryz.call116,λb hk bv cs r _ _ _=>ag5 bv r b⟩ (af _));have HV:=hide hv;have eI:=hide oq;have YD:=hide ((bL.block _ (by simp)).trans (ae GU));clear hv bL oq;go_wp2_with fail;refine (ae HF).mono ?_;rintro r w2 ⟨wv,rfl,hw,bO⟩;have yS:=(bO.block _ (az (ae YD))).trans (ae YD);obtain ⟨q0,q1⟩:=ez yS;have z0:=lz yS 0;have z1:=lz yS 1;have qR:=(ae eI).trans (bO.mono (ae eI).size);have jD:w.heap.size<w1.heap.size:=az (ae YD);have HE:=hide (λa b=>(show Below w.heap.size w ((w2.setCell ⟨w.heap.size,0,none⟩ a).setCell ⟨w.heap.size,1,none⟩ b)/\kF ((w2.setCell ⟨w.heap.size,0,none⟩ a).setCell ⟨w.heap.size,1,none⟩ b) (.slice va cols.length cJ) (List.range cols.length)/\ef ((w2.setCell ⟨w.heap.size,0,none⟩ a).setCell ⟨w.heap.size,1,none⟩ b) w1.heap.size wv ok (λ_=>.inl (oA 1)) from by
  refine ⟨(qR.setCell (af _) _).setCell (af _) _,?_,(hw.set jD).set jD⟩;have h2:=du (ae HV) bO;have iq:∀k,(Value.slice va cols.length cJ).ownBlock=some k->k≠w.heap.size:=λk hk e=>by have:=((ae HV).lt k hk).1;simp at this;omega
  have h3:=dJ h2 (grownBy_setCell w2 ⟨w.heap.size,0,none⟩ a) (λk hk e=>iq k e (by cases hk;rfl));have h4:=dJ h3 (grownBy_setCell _ ⟨w.heap.size,1,none⟩ b) (λk hk e=>iq k e (by cases hk;rfl));have:=bF.jt h4;unfold kF;rw [eS];exact this))
 obtain ⟨k2,iy,rfl,-⟩:=hw;clear bO yS qR HF;have rsf:=k9 k2 iy;go_wp2_with fail
 (try simp only [Exit.inBlock,Exit.then])
 refine ay (v:=.agg #[.slice va cols.length cJ,.func (.func k2) #[] iy]) (by simp [results,Tryz.results83,go_sem,q0,q1];try rfl) rfl ?_;obtain ⟨e1,e2,e3⟩:=ae HE (.slice va cols.length cJ) (.func (.func k2) #[] iy);exact ⟨_,_,w1.heap.size,rfl,e2,e3,jD,e1⟩
def ti (F S:List (List aL)):List (List aL):=(F.zip S).map λp=>p.1++p.2
theorem IA {F S:List (List aL)}{i:Nat}{a b:List aL}(ha:F[i]?=some a)(hb:S[i]?=some b):(ti F S)[i]?=some (a++b):=by
 unfold ti;rw [a7,List.getElem?_zip_eq_some (z:=(a,b)) |>.mpr ⟨ha,hb⟩];rfl
theorem pH {F S:List (List aL)}(h:F.length=S.length):(ti F S).length=F.length:=by simp [ti];omega
def nF (F S:List (List aL))(i:Nat):List (List aL):=(ti F S).take i++F.drop i
theorem ER {F S:List (List aL)}{i:Nat}{a b:List aL}(ha:F[i]?=some a)(hb:S[i]?=some b)(h:F.length=S.length):(nF F S i).set i (a++b)=nF F S (i+1):=by
 obtain ⟨cF,hr⟩:=ak.mp ha;have hj:=IA ha hb;have hl:((ti F S).take i).length=i:=by rw [bV,pH h];omega
 unfold nF;rw [dA cF,dO _ _ (by omega),hl,cM,iM,dW,hj];simp
theorem rh {F S:List (List aL)}{i:Nat}(h:F.length=S.length)(hi:i<=F.length):(nF F S i).length=F.length:=by unfold nF;rw [au,bV,pH h,cu];omega
theorem ES {F S:List (List aL)}{i:Nat}(h:F.length=S.length)(hi:i<F.length):(nF F S i)[i]?=F[i]?:=by
 have hl:((ti F S).take i).length=i:=by rw [bV,pH h];omega
 unfold nF;rw [bm (by omega),hl,cM,gx,iY]
theorem SB {l:List aL}:∀u∈bw l,u.oneCell'=true:=by
 intro u hu;unfold bw at hu;rw [List.mem_flatMap] at hu;obtain ⟨c,-,hc⟩:=hu;simp [nw] at hc;rcases hc with rfl|rfl|rfl<;>rfl
theorem Tryz.BD:(Tryz.prog.info? 214).map (λi=>(i.zero,i.size,i.bytes))=some (some (.agg #[.bool false,.int .i64 0,.string ⟨#[]⟩]),3,32):=by kernel_rfl
structure wF (w wr:World)(base:Nat)(fv:Value)(vs:List Value)(F S:List (List aL))(o n i:Nat)(ms:List Value):Prop where
 first:wr.ownsRow base 198 1 fv F.length vs
 out:wr.ownsRow w.heap.size 198 1 (.slice (some ⟨o,0,none⟩) n n) n (ms.take i++List.replicate (n - i) pF)
 rows:po wr base ms (nF F S i)
 old:∀j,i<=j->ms[j]?=vs[j]?
 off:∀(j:Nat) (u:Value) (g:Nat),ms[j]?=some u->u.ownBlock=some g->fv.ownBlock≠some g/\g≠o
 K8:Below base w wr
 ads:fv.ownBlock≠some o
theorem take_set {α:Type}{l:List α}{i n:Nat}{u z:α}(hl:l.length=n)(hi:i<n):(l.take i++List.replicate (n - i) z).set i u=(l.set i u).take (i+1)++List.replicate (n - (i+1)) z:=by
 have h1:(l.take i).length=i:=by simp;omega
 rw [show n - i=(n - (i+1))+1 by omega,fQ,dO _ _ (by omega),h1,cM,iM,dW,List.take_set,bq,aH rfl,aH (by omega),List.set_eq_of_length_le (by omega)];simp
theorem wF.drew {w wr:World}{base:Nat}{fv:Value}{vs:List Value}{F S:List (List aL)}{o n i:Nat}{ms:List Value}(h:wF w wr base fv vs F S o n i ms):wF w wr.drew base fv vs F S o n i ms:=⟨h.first,h.out,⟨h.rows.len,h.rows.own,h.rows.apart⟩,h.old,h.off,aJ h.K8,h.ads⟩
theorem wF.next {w wr w3:World}{base:Nat}{fv:Value}{vs:List Value}{F S:List (List aL)}{o i:Nat}{ms:List Value}(h:wF w wr base fv vs F S o F.length i ms)(hl:F.length=S.length){a b:List aL}(J9:F[i]?=some a)(VY:S[i]?=some b){u:Value}(Cx:ms[i]?=some u){g cap:Nat}
 (br:w3.ownsRow base 214 3 (.slice (some ⟨g,0,none⟩) (a.length+b.length) cap) (a.length+b.length) (bw a++bw b)) (hg:wr.grownBy w3 u.ownBlock) (hb:u.ownBlock=some g\/g=wr.heap.size) (qv:base<=o) :
 wF w (w3.setCell ⟨o,i,none⟩ (.slice (some ⟨g,0,none⟩) (a.length+b.length) cap)) base fv vs F S o F.length (i+1) (ms.set i (.slice (some ⟨g,0,none⟩) (a.length+b.length) cap))/\w3.cell? ⟨o,i,none⟩=some pF/\w3.frozen? ⟨o,i,none⟩=false:=by
 have hi:i<F.length:=(ak.mp J9).1;have OU:ms.length=F.length:=by rw [h.rows.len,rh hl (eH hi)]
 have hol:=(h.out.lt o rfl).2;have yT:g≠o:=by
  rcases hb with e|e
  . exact (h.off i u g Cx e).2
  . omega
 have hgf:fv.ownBlock≠some g:=by
  rcases hb with e|e
  . exact (h.off i u g Cx e).1
  . intro e2;have:=(h.first.lt g e2).2;omega
 have zR:∀j x,j≠i->ms[j]?=some x->x.ownBlock≠some g:=by
  intro j x hj hx e2;rcases hb with e|e
  . exact h.rows.apart i j u x g (λe=>hj e.symm) Cx hx e e2
  . have:=(h.rows.lt hx e2).2;omega
 have adt:=dJ h.out hg (λk hk e=>(h.off i u k Cx hk).2 (by simpa [Value.ownBlock] using e.symm));have iP:=(adt.stored i (.slice (some ⟨g,0,none⟩) (a.length+b.length) cap)).1;rw [take_set OU hi] at iP;have iu:=grownBy_setCell w3 ⟨o,i,none⟩ (.slice (some ⟨g,0,none⟩) (a.length+b.length) cap);have hcell:bw a++bw b=bw (a++b):=by simp [bw]
 have gS:w3.ownsRow base 214 3 (.slice (some ⟨g,0,none⟩) (a.length+b.length) cap) (a++b).length (bw (a++b)):=by rw [au,<- hcell];exact br
 refine ⟨⟨dJ (dJ h.first hg (λk hk e=>(h.off i u k Cx hk).1 e)) iu (λk hk e=>by cases hk;exact h.ads e),iP,?_,λj hj=>?_,λj x k h1 h2=>?_,?_,h.ads⟩,?_,adt.frozenAt i⟩
 . rw [<- ER J9 VY hl]
   refine h.rows.set (dJ gS iu (λk hk e=>by cases hk;simp [Value.ownBlock] at e;exact yT e)) (λj x y hj h1 h2=>dJ (dJ (h.rows.own j x y h1 h2) hg (λk hk e=>h.rows.apart i j u x k (λe=>hj e.symm) Cx h1 hk e)) iu (λk hk e=>by cases hk;exact (h.off j x o h1 e).2 rfl)) (λj x k hj h1 hk=>by simp [Value.ownBlock] at hk;subst hk;exact zR j x hj h1)
 . rw [bq,aA (by omega)];exact h.old j (by omega)
 . rw [bq] at h1
   split at h1
   . split at h1
     . cases h1;simp [Value.ownBlock] at h2;subst h2;exact ⟨hgf,yT⟩
     . cases h1
   . exact h.off j x k h1 h2
 . have hbs:=h.K8.size
   refine (h.K8.grown hg (by have:=h.out.lt o rfl;omega) (λk hk=>(h.rows.lt Cx hk).1)).setCell qv _
 . rw [adt.cellAt i (by omega),bm (by simp;omega),cK,aH (by simp;omega)]
def gQ (M:Nat->Prop)(v:Value):Prop:=∀a n c,v=.slice (some a) n c->¬M a.block
def fC (M:Nat->Prop)(w:World)(v:Value)(L:List (List aL)):Prop:=gQ M v/\∃vs,bF w 1 v L.length vs/\∀(i:Nat) (c:List aL),L[i]?=some c->∃u,vs[i]?=some u/\lD w u c/\gQ M u
theorem fC.batch {M:Nat->Prop}{w:World}{v:Value}{L:List (List aL)}(h:fC M w v L):iC w v L:=by
 obtain ⟨-,vs,h1,h2⟩:=h;exact ⟨vs,h1,λi c hi=>by obtain ⟨u,h3,h4,-⟩:=h2 i c hi;exact ⟨u,h3,h4⟩⟩
theorem OV {w:World}{base:Nat}{fv sv:Value}{vs:List Value}{F S:List (List aL)}(hf:oH w base fv vs F)(hs:∀w',Below base w w'->iC w' sv S)(hl:F.length=S.length)(h5:F.length<=1000)(hc:∀(i:Nat) (a b:List aL),F[i]?=some a->S[i]?=some b->0<b.length/\a.length+b.length<=1000)(qv:base<=w.heap.size) :
 Calls Tryz.prog 227 #[fv,sv] w λr w'=>∃v,r=.returned v/\fC (·<base) w' v (ti F S)/\Below base w w':=by
 obtain ⟨i0,yv,jS,jD,jv⟩:=lE Tryz.pG;obtain ⟨j0,hj0,jz0,jz1,jz2⟩:=lE Tryz.BD;obtain ⟨fa,ady,rfl,hfa,-⟩:=di hf.row;obtain ⟨sa,mb,rfl⟩:=(hs w (ag _ _)).slice;have HF:=hide hf;have HS:=hide hs;have HL:=hide hl;have HC:=hide hc;have HFA:=hide hfa;clear hf hs hl hc hfa;go_enter Tryz.func227,Tryz.ntmps227;go_wp2_with (at_make;refine dw _ rfl _ _ 148 rfl w.heap.size 198 i0 _ 1 Tryz.underlying148 yv jS jD _ _ _ _ F.length rfl rfl rfl rfl (by rw [jv];omega) (by unfold maxLen;omega) (by simp) ?_;intro w1 br bE);rw [kK,qQ] at br;have bL:Below w.heap.size w w1:=(ag _ _).grown bE (af _) (by simp);have HJ:Hid (wF w w1 base (.slice fa F.length ady) vs F S w.heap.size F.length 0 vs):=hide ⟨du (ae HF).row bL,by rw [ll,fA,oZ];exact br,by have:=(ae HF).each.below bL;unfold nF;rw [ll,fA,List.drop_zero];exact this,λ_ _=>rfl,λj u g h1 h2=>⟨(ae HF).off j u g h1 h2,λe=>by have:=((ae HF).each.lt h1 h2).2;omega⟩,bL.mono qv,λe=>by have:=((ae HF).row.lt _ e).2;omega⟩;clear br bE bL yv jS jD jv;go_wp2_with fail;go_loopw [12] (λc wr=>∃(i:Nat) (ms:List Value),i<=F.length/\c=.int .i64 i/\Hid (wF w wr base (.slice fa F.length ady) vs F S w.heap.size F.length i ms)) (λc _=>F.length - (intOf c).toNat)
 case atStart=>exact ⟨0,vs,aN _,rfl,HJ⟩
 case round=>
  obtain ⟨i,ms,hi,rfl,HJI⟩:=hrel;by_cases cF:i<F.length
  . have jI:(i:Int)<F.length:=by omega
    have asG:(i:Int)<S.length:=by have:=ae HL;omega
    obtain ⟨g,rfl,hgb⟩:=ae HFA (by omega);obtain ⟨a,J9⟩:∃a,F[i]?=some a:=⟨F[i],ah cF⟩;obtain ⟨b,VY⟩:∃b,S[i]?=some b:=⟨S[i]'(by have:=ae HL;omega),ah _⟩;obtain ⟨kX,Iw⟩:=ae HC i a b J9 VY;have hJ:=ae HJI;obtain ⟨u,hui,-⟩:=(ae HF).each.cells J9;have Cx:ms[i]?=some u:=(hJ.old i (af _)).trans hui;have UQ:=hJ.rows.own i u a Cx ((ES (ae HL) cF).trans J9);obtain ⟨ua,td,rfl,hua,abK⟩:=di UQ;have c0:wr.cell? ⟨g,i,none⟩=some (.slice ua a.length td):=(hJ.first.cellAt i (by omega)).trans hui;obtain ⟨sg,so,VZ,v,he,hsg,s0,hv⟩:=(ae HS wr hJ.K8).OQ VY
    cases he
    obtain ⟨vg,vo,cJ,rfl,Yw,hvg,hvx⟩:=bF.at hv kX;have HOU:Hid (wr.drew.ownsRow base 214 3 (.slice ua a.length td) a.length (bw a)):=hide UQ;have yU:Hid (∀j x,(bw b)[j]?=some x->wr.drew.cell? ((⟨vg,vo,none⟩:Addr).add j)=some x):=hide (λj x h=>by have e:=hvx j x h;cases j with|zero=>simpa [Addr.add] using e|succ j=>simpa [Addr.add] using e);have ZI:=hide (λ(g2 gcap:Nat) (w3:World) h1 (h2:wr.drew.grownBy w3 _) h3=>hJ.drew.next (ae HL) J9 VY Cx (g:=g2) (cap:=gcap) (w3:=w3) h1 h2 h3 qv);have hbs:=aw qv (eH (hJ.out.lt w.heap.size rfl).2);have hlb:(bw b).length=b.length*3:=by unfold bw;exact q9 nw 3 pE b
    have HLB:=hide hlb;clear hJ hv UQ hvx Cx hui J9 VY hlb;go_wp2_with fail;go_region_law (refine step_append_lies _ rfl (.tmp 20) (.tmp 24) 198 rfl base 214 j0 _ 3 32 Tryz.underlying198 hj0 jz0 jz1 jz2 rfl (by decide) _ _ _ (by simp [Act.eval]) (ae HOU) ⟨vg,vo,none⟩ b.length cJ (bw b) (by simp [Act.eval]) (ae HLB) (ae yU) SB kX (by unfold maxLen;omega) (by omega) hbs wr.heap.size rfl ?_;intro g2 gcap w3 ld ja rV _;obtain ⟨hJ3,d0,fz⟩:=ae ZI g2 gcap w3 ld ja rV;have HJ3:=hide hJ3;clear hJ3 ld ja rV)
    all_goals
     (try go_wp2_with fail)
     go_roundw
     case rel=>exact ⟨i+1,_,by omega,by go_num,HJ3⟩
     case measure=>simp [intOf];omega
  . obtain rfl:i=F.length:=by omega
    have hJ:=ae HJI;have ho:=hJ.out;have OU:ms.length=F.length:=by rw [hJ.rows.len,rh (ae HL) (af _)]
    rw [cM,dp,bH,aP (by omega)] at ho;have e:nF F S F.length=ti F S:=by unfold nF;rw [iO,bH,aP (by rw [pH (ae HL)];exact af _)]
    have HR:Hid (fC (·<base) wr (.slice (some ⟨w.heap.size,0,none⟩) F.length F.length) (ti F S)):=hide ⟨λa n c hv hm=>by cases hv;simp at hm;omega,ms,by rw [pH (ae HL)];exact bF.jt ho,λj c hj=>by
     rw [<- e] at hj;obtain ⟨u,h1,h2⟩:=hJ.rows.cells hj;exact ⟨u,h1,h2,λa n c hv hm=>by
      have:=(hJ.rows.lt (g:=a.block) h1 (by rw [hv];rfl)).1;omega⟩⟩
    have HB:=hide hJ.K8;clear hJ ho OU e;go_wp2_with fail;go_ret;exact ⟨_,rfl,ae HR,ae HB⟩
def bX (n:Nat)(R:List (List aL)):List (List aL):=(List.range n).map λj=>R.map λr=>r.getD j eW
theorem bC (n:Nat)(R:List (List aL)):(bX n R).length=n:=by simp [bX]
theorem ET {n j:Nat}{R:List (List aL)}{c:List aL}(h:(bX n R)[j]?=some c):j<n/\c=R.map λr=>r.getD j eW:=by
 unfold bX at h;rw [a7] at h
 cases hr:(List.range n)[j]? with
 |none=>rw [hr] at h;cases h
 |some k=>
   rw [hr] at h
   cases h
   obtain ⟨h1,h2⟩:=ak.mp hr;simp at h1 h2;subst h2;exact ⟨h1,rfl⟩
theorem kz {n j:Nat}{R:List (List aL)}(h:j<n):(bX n R)[j]?=some (R.map λr=>r.getD j eW):=by
 unfold bX;rw [a7,jB h];rfl
theorem mI {n:Nat}{R:List (List aL)}{c:List aL}(h:c∈bX n R):c.length=R.length:=by
 unfold bX at h;rw [dv] at h;obtain ⟨j,-,rfl⟩:=h;simp
theorem Cy (n:Nat)(A B:List (List aL)):ti (bX n A) (bX n B)=bX n (A++B):=by
 apply cX;intro j;by_cases hj:j<n
 . rw [IA (kz hj) (kz hj),kz hj,fB]
 . rw [bp (by rw [pH (by rw [bC,bC]),bC];omega),bp (by rw [bC];omega)]
theorem EU (n a b:Nat)(R:List (List aL)):Bz a b (bX n R)=bX n ((R.drop a).take (b - a)):=by
 apply cX;intro j;unfold Bz;by_cases hj:j<n
 . rw [a7,kz hj,kz hj]
   simp [EO,List.map_drop,List.map_take]
 . rw [bp (by rw [aW,bC];omega),bp (by rw [bC];omega)]
def Ka (cols:List cU)(r:List aL):Prop:=r.length=cols.length/\∀(j:Nat) (c:aL) (k:cU),r[j]?=some c->cols[j]?=some k->VH k.2 c
def jh (cols:List cU)(R:List (List aL)):Prop:=∀r∈R,Ka cols r
theorem ZJ {cols:List cU}{R:List (List aL)}(h:jh cols R){i:Nat}{col:List aL}{k:cU}(h1:(bX cols.length R)[i]?=some col)(h2:cols[i]?=some k):Si k.2 col:=by
 obtain ⟨hi,rfl⟩:=ET h1;intro c hc;obtain ⟨r,hr,rfl⟩:=dv.mp hc;have hf:=h r hr;have cF:i<r.length:=by rw [hf.1];exact hi
 have e:r[i]?=some (r.getD i eW):=by simp [List.getD,List.getElem?_eq_getElem cF]
 exact hf.2 i _ k e h2
def lF (S:Nat)(Cs:List (List (List aL))):Prop:=∀(i:Nat) (c:List (List aL)),Cs[i]?=some c->0<c.length/\c.length<=S/\(i+1<Cs.length->c.length=S)
theorem lF.nil {S:Nat}:lF S []:=λi c h=>by simp at h
theorem lF.snoc {S:Nat}{Cs:List (List (List aL))}{c:List (List aL)}(h:∀d∈Cs,d.length=S)(hS:0<S)(h0:0<c.length)(h1:c.length<=S):lF S (Cs++[c]):=by
 intro i d hd;rw [jc] at hd;split at hd
 . have:=h d (aG hd)
   exact ⟨by omega,by omega,λ_=>this⟩
 . have hl:=(ak.mp hd).1
   simp at hl;have e:i - Cs.length=0:=by omega
   rw [e] at hd
   cases hd
   exact ⟨h0,h1,λh=>by simp at h;omega⟩
theorem tj {S:Nat}:∀{Cs:List (List (List aL))},(∀d∈Cs,d.length=S)->Cs.flatten.length=Cs.length*S
 |[],_=>by simp
 |d::l,h=>by
   rw [List.flatten_cons,au,tj (λx hx=>h x (by simp [hx])),h d (by simp),aY,lA];omega
theorem lF.last {S:Nat}{Cs:List (List (List aL))}(h:lF S Cs):(Cs.flatten.length % S=0/\∀d∈Cs,d.length=S)\/∃Ds c,Cs=Ds++[c]/\(∀d∈Ds,d.length=S)/\0<c.length/\c.length<S/\Cs.flatten.length % S=c.length:=by
 rcases List.eq_nil_or_concat Cs with rfl|⟨Ds,c,rfl⟩
 . exact .inl ⟨by simp,λd hd=>by simp at hd⟩
 . have hD:∀d∈Ds,d.length=S:=by
    intro d hd;obtain ⟨i,hi⟩:=cm hd;have hl:=(ak.mp hi).1;exact (h i d (by rw [jY,bQ hl];exact hi)).2.2 (by simp;omega)
   have hc:=h Ds.length c (by rw [jY,bm (af _)];simp);have yh:(Ds.concat c).flatten.length=Ds.length*S+c.length:=by rw [jY,il,au,tj hD];simp
   by_cases hcs:c.length=S
   . refine .inl ⟨by rw [yh,hcs,Nat.add_mod_right,Nat.mul_mod_left],λd hd=>?_⟩
     rw [jY,dm,dy] at hd;rcases hd with hd|rfl
     . exact hD d hd
     . exact hcs
   . refine .inr ⟨Ds,c,by rw [jY],hD,hc.1,by omega,?_⟩
     rw [yh,Nat.mul_add_mod_self_right];exact tZ (by omega)
def sJ (w:World)(cols:List cU)(vs:List Value)(Cs:List (List (List aL))):Prop:=vs.length=Cs.length/\∀(i:Nat) (u:Value) (c:List (List aL)),vs[i]?=some u->Cs[i]?=some c->∃ss,Bx w u ss/\Sj (cols.map (·.2)) (bX cols.length c) ss
def jP (q:Nat)(sv:Value)(b:Nat):Prop:=b=q\/sv.ownBlock=some b
theorem bF.moves {w w':World}{size n:Nat}{v:Value}{xs:List Value}{M:Nat->Prop}(h:bF w size v n xs)(hn:gQ M v)(hs:w.heap.size<=w'.heap.size)(hb:∀b,b<w.heap.size->¬M b->w'.heap[b]?=w.heap[b]?):bF w' size v n xs:=by
 refine ⟨h.1,?_⟩;rcases h.2 with h1|⟨g,o,cap,hv,hc,hg,hx⟩
 . exact .inl h1
 . refine .inr ⟨g,o,cap,hv,hc,by omega,λj hj=>?_⟩
   rw [<- hx j hj];exact bJ (w:=w) (a:=⟨g,o+j,none⟩) (hb g hg (hn _ _ _ hv))
section
variable {M M':Nat->Prop} {w w':World} {v:Value} {L:List (List aL)}
theorem fC.moves (h:fC M w v L)(hs:w.heap.size<=w'.heap.size)(hb:∀b,b<w.heap.size->¬M b->w'.heap[b]?=w.heap[b]?):fC M w' v L:=by
 obtain ⟨h0,vs,h1,h2⟩:=h;exact ⟨h0,vs,h1.moves h0 hs hb,λi c hi=>by obtain ⟨u,h3,h4,h5⟩:=h2 i c hi;exact ⟨u,h3,bF.moves h4 h5 hs hb,h5⟩⟩
theorem bF.inside {size n:Nat}{xs:List Value}(h:bF w size v n xs)(hn:0<n):∀a m c,v=.slice (some a) m c->a.block<w.heap.size:=by
 intro a m c hv;rcases h.2 with ⟨h0,-⟩|⟨g,o,cap,hv2,-,hg,-⟩
 . omega
 . rw [hv] at hv2;cases hv2;exact hg
theorem fC.weaken (h:fC M w v L)(hM:∀b,M' b->M b\/w.heap.size<=b)(hn:0<L.length)(hc:∀c∈L,0<c.length):fC M' w v L:=by
 obtain ⟨h0,vs,h1,h2⟩:=h;refine ⟨λa n c hv hm=>?_,vs,h1,λi c hi=>?_⟩
 . rcases hM _ hm with h|h
   . exact h0 a n c hv h
   . have:=h1.inside hn a n c hv;omega
 . obtain ⟨u,h3,h4,h5⟩:=h2 i c hi
   refine ⟨u,h3,h4,λa n cc hv hm=>?_⟩;rcases hM _ hm with h|h
   . exact h5 a n cc hv h
   . have:=bF.inside h4 (hc c (aG hi)) a n cc hv;omega
end
theorem sJ.moves {M:Nat->Prop}{w w':World}{cols:List cU}{vs:List Value}{Cs:List (List (List aL))}(h:sJ w cols vs Cs)(hn:∀u∈vs,gQ M u)(hs:w.heap.size<=w'.heap.size)(hb:∀b,b<w.heap.size->¬M b->w'.heap[b]?=w.heap[b]?):sJ w' cols vs Cs:=
 ⟨h.1,λi u c h1 h2=>by obtain ⟨ss,h3,h4⟩:=h.2 i u c h1 h2;exact ⟨ss,bF.moves h3 (hn u (aG h1)) hs hb,h4⟩⟩
theorem LQ {w:World}{base size n m:Nat}{t:TypeId}{a:Option Addr}{cap:Nat}{xs:List Value}(h:w.ownsRow base t size (.slice a n cap) n xs)(hm:m<=n)(h0:0<n):w.ownsRow base t size (.slice a m cap) m (xs.take (m*size)):=by
 refine ⟨by rw [bV,h.1];exact gj (eF _ hm),?_⟩;rcases h.2 with ⟨-,h1⟩|⟨g,uy,cur,hv,hg,hc,hn,h3,h4,h5⟩
 . omega
 . cases hv
   refine .inr ⟨g,cap,cur,rfl,hg,hc,by omega,h3,h4,?_⟩;rw [<- h5,List.take_take,gj (eF _ hm)]
structure py (Z:Nat->Prop)(w wr:World)(q base:Nat)(cols:List cU)(cv oE sv:Value)(vs:List Value)(Ds:List (List (List aL)))(n:Int):Prop where
 dV:wr.heap[q]?=some (.cells #[cv,sv,.int .i64 n] 194 (0,0))
 Hb:gq wr cv cols
 own:wr.ownsRow base 196 1 sv Ds.length vs
 qE:sJ wr cols vs Ds
 row:∀g,sv.ownBlock=some g->oE.ownBlock=some g\/w.heap.size<=g
 off:sv.ownBlock≠some q
 K9:gQ (jP q sv) cv
 IB:∀u∈vs,gQ (jP q sv) u
 keep:aQ (λb=>b<w.heap.size/\¬jP q oE b) w wr
 lq:q<w.heap.size
 YE:∀u∈vs,gQ Z u
 zin:∀b,Z b->b<w.heap.size
section
variable {Z:Nat->Prop} {w wr w2:World} {q base:Nat} {cols:List cU} {cv oE sv:Value} {vs:List Value} {Ds:List (List (List aL))} {n:Int}
theorem py.below (h:py Z w wr q base cols cv oE sv vs Ds n)(hb:Below wr.heap.size wr w2):py Z w w2 q base cols cv oE sv vs Ds n:=
 ⟨(hb.block q (az h.dV)).trans h.dV,h.Hb.below hb (af _),du h.own hb,h.qE.moves h.IB hb.size (λb h1 _=>hb.block b h1),h.row,h.off,h.K9,h.IB,h.keep.trans ⟨hb.os,hb.tape,hb.output,hb.size,λb hk=>hb.block b (aF hk.1 h.keep.size)⟩,h.lq,h.YE,h.zin⟩
theorem py.put (h:py Z w wr q base cols cv oE sv vs Ds n){i:Nat}{u sv2:Value}{n2:Int}{vs2:List Value}{Ds2:List (List (List aL))}(he:(#[cv,sv,.int .i64 n]:Array Value).setIfInBounds i u=#[cv,sv2,.int .i64 n2])(br:wr.ownsRow base 196 1 sv2 Ds2.length vs2)(V0:sJ wr cols vs2 Ds2)(gC:∀g,sv2.ownBlock=some g->oE.ownBlock=some g\/w.heap.size<=g)(ZK:sv2.ownBlock≠some q)(OW:gQ (jP q sv2) cv)(ZL:∀u∈vs2,gQ (jP q sv2) u)(amB:∀u∈vs2,gQ Z u) :
 py Z w (wr.setCell ⟨q,i,none⟩ u) q base cols cv oE sv2 vs2 Ds2 n2:=by
 have hmv:∀b,b<wr.heap.size->¬jP q sv2 b->(wr.setCell ⟨q,i,none⟩ u).heap[b]?=wr.heap[b]?:=λb _ hb=>aD _ _ _ _ (show b≠q from λe=>hb (.inl e));have kd:wr.heap.size<=(wr.setCell ⟨q,i,none⟩ u).heap.size:=by simp [World.setCell]
 refine ⟨?_,bF.moves h.Hb OW kd hmv,dJ br (grownBy_setCell wr ⟨q,i,none⟩ u) (λk hk e=>by cases hk;exact ZK e),V0.moves ZL kd hmv,gC,ZK,OW,ZL,h.keep.setCell (λhk=>hk.2 (.inl rfl)) _,h.lq,amB,h.zin⟩;rw [<- he];exact aO wr q i _ _ u h.dV
theorem py.OX (h:py Z w wr q base cols cv oE sv vs Ds n){w3:World}{g cap:Nat}{u:Value}{c:List (List aL)}{ss:List ByteArray}(hu:Bx wr u ss)(VL:gQ (jP q sv) u)(hzu:gQ Z u)(DJ:Sj (cols.map (·.2)) (bX cols.length c) ss)(EV:0<ss.length)
 (br:w3.ownsRow base 196 1 (.slice (some ⟨g,0,none⟩) (Ds.length+1) cap) (Ds.length+1) (vs++[u])) (hg:wr.grownBy w3 sv.ownBlock) (hb:sv.ownBlock=some g\/wr.heap.size<=g) (amD:0<cols.length) :
 py Z w (w3.setCell ⟨q,1,none⟩ (.slice (some ⟨g,0,none⟩) (Ds.length+1) cap)) q base cols cv oE (.slice (some ⟨g,0,none⟩) (Ds.length+1) cap) (vs++[u]) (Ds++[c]) n/\w3.heap[q]?=some (.cells #[cv,sv,.int .i64 n] 194 (0,0)):=by
 have hq:=az h.dV;have kd:=hg.size;have hgq:g≠q:=by
  rcases hb with e|e
  . intro e2;exact h.off (by rw [e,e2])
  . omega
 have old:∀b,b<wr.heap.size->¬jP q sv b->w3.heap[b]?=wr.heap[b]?:=λb h1 h2=>hg.block b h1 (λe=>h2 (.inr e.symm));have bW:w3.heap[q]?=some (.cells #[cv,sv,.int .i64 n] 194 (0,0)):=(hg.block q hq (λe=>h.off e.symm)).trans h.dV;have hm:∀b,jP q (.slice (some ⟨g,0,none⟩) (Ds.length+1) cap) b->jP q sv b\/wr.heap.size<=b:=by
  rintro b (e|e)
  . exact .inl (.inl e)
  . simp [Value.ownBlock] at e
    subst e;exact hb.imp .inr id
 have K9:gQ (jP q (.slice (some ⟨g,0,none⟩) (Ds.length+1) cap)) cv:=λa k c hv UD=>by
  rcases hm _ UD with e|e
  . exact h.K9 a k c hv e
  . have:=bF.inside h.Hb amD a k c hv;omega
 have IB:∀x∈vs++[u],gQ (jP q (.slice (some ⟨g,0,none⟩) (Ds.length+1) cap)) x:=by
  intro x hx a k cc hv UD;rw [dm,dy] at hx;rcases hm _ UD with e|e
  . rcases hx with hx|rfl
    . exact h.IB x hx a k cc hv e
    . exact VL a k cc hv e
  . rcases hx with hx|rfl
    . obtain ⟨i,hi⟩:=cm hx
      have hl:=(ak.mp hi).1;have Kc:i<Ds.length:=by rw [<- h.qE.1];exact hl
      obtain ⟨s2,ht,LN⟩:=h.qE.2 i x Ds[i] hi (ah Kc);have hp2:0<s2.length:=by have:=LN.1;rw [aW] at this;omega
      have:=bF.inside ht hp2 a k cc hv;omega
    . have:=bF.inside hu EV a k cc hv
      omega
 have ahh:sJ w3 cols (vs++[u]) (Ds++[c]):=by
  refine ⟨by simp [h.qE.1],λi x d h1 h2=>?_⟩;by_cases hi:i<Ds.length
  . rw [bQ (by rw [h.qE.1];exact hi)] at h1
    rw [bQ hi] at h2;obtain ⟨s2,ht,LN⟩:=h.qE.2 i x d h1 h2;exact ⟨s2,bF.moves ht (h.IB x (aG h1)) kd old,LN⟩
  . rw [bm (by rw [h.qE.1];omega),h.qE.1] at h1
    rw [bm (by omega)] at h2;have hl:=(ak.mp h1).1;simp at hl;have e0:i - Ds.length=0:=by omega
    rw [e0] at h1 h2
    cases h1
    cases h2
    exact ⟨ss,bF.moves hu VL kd old,DJ⟩
 refine ⟨?_,bW⟩;have tq:aQ (λb=>b<w.heap.size/\¬jP q oE b) w w3:=h.keep.trans ⟨hg.os,hg.tape,hg.output,hg.size,λb hk=>hg.block b (aF hk.1 h.keep.size) (λe=>by
  rcases h.row b e.symm with e2|e2
  . exact hk.2 (.inr e2)
  . exact absurd hk.1 (by omega))⟩
 have hmv:∀b,b<w3.heap.size->¬jP q (.slice (some ⟨g,0,none⟩) (Ds.length+1) cap) b->(w3.setCell ⟨q,1,none⟩ (.slice (some ⟨g,0,none⟩) (Ds.length+1) cap)).heap[b]?=w3.heap[b]?:=λb _ hb=>aD _ _ _ _ (show b≠q from λe=>hb (.inl e));have hs4:w3.heap.size<=(w3.setCell ⟨q,1,none⟩ (.slice (some ⟨g,0,none⟩) (Ds.length+1) cap)).heap.size:=by simp [World.setCell]
 refine ⟨aO w3 q 1 _ _ _ bW,bF.moves (bF.moves h.Hb h.K9 kd old) K9 hs4 hmv,dJ (by rw [au];exact br) (grownBy_setCell w3 ⟨q,1,none⟩ _) (λk hk e=>by cases hk;simp [Value.ownBlock] at e;exact hgq e),ahh.moves IB hs4 hmv,λk hk=>?_,by simp [Value.ownBlock];exact hgq,K9,IB,tq.setCell (λhk=>hk.2 (.inl rfl)) _,h.lq,λx hx=>by
  rw [dm,dy] at hx;rcases hx with hx|rfl
  . exact h.YE x hx
  . exact hzu,h.zin⟩
 simp [Value.ownBlock] at hk;subst hk;rcases hb with e|e
 . exact h.row g e
 . have:=h.keep.size;exact .inr (by omega)
end
structure rO where
 seg:Nat
 pk:Nat
 wd:Nat
 prune:Bool
 push:Bool
 bud:Nat
 s1:1<=seg
 s16:seg<=16
 p3:pk<=3
 w1:1<=wd
 w16:wd<=16
 b4:bud<=4096
def SC (o:rO):List Value:=[.int .i64 o.seg,.int .i64 o.pk,.int .i64 o.wd,.bool o.prune,.bool o.push,.int .i64 o.bud]
abbrev mr (o:rO):Obj:=.cells #[.int .i64 o.seg,.int .i64 o.pk,.int .i64 o.wd,.bool o.prune,.bool o.push,.int .i64 o.bud] 50
structure Adding (Z:Nat->Prop)(w wr:World)(q base S:Nat)(cols:List cU)(cv oE sv mv:Value)(vs:List Value)(Ds Es:List (List (List aL)))(M:List (List aL))(n:Int)(at_:Nat):Prop where
 tab:py Z w wr q base cols cv oE sv vs (Ds++Es) n
 bat:fC (jP q sv) wr mv (bX cols.length M)
 full:∀d∈Ds,d.length=S
 done:Es.flatten=M.take at_
 each:∀(i:Nat) (d:List (List aL)),Es[i]?=some d->0<d.length/\d.length<=S/\(i+1<Es.length->d.length=S)
 pos:at_=Es.length*S
 V1:at_<M.length->∀d∈Es,d.length=S
theorem iV {P:Program}{ops:Array Oper}{o:Oper}{a:Act}{w:World}{K:Act->World->Prop}{Q:Exit->Act->World->Prop}{E:Prop}(hg:o.guard=none)(f:FuncId)(xs:Array Operand)(ats:Array TypeId)
 (nx:o.op=.call { callee:=.value (.func f),args:=xs,argTypes:=ats }) (hc:∀(args:Array Value) (w:World),Sem.run P (callFunc f args) w=.ok (.enter f args) w) (args:Array Value) (ha:#[]++xs.map a.eval++#[]=args)
 (R:Ending->World->Prop) (hC:Calls P f args w R) (h:∀e w',R e w'->∃v,e=.returned v/\K (a.put o.dst v) w'):if Region.wanted o (yielded ops a.tmps)=true then Oper.wp P o a w K Q else E:=by
 have hw:Region.wanted o (yielded ops a.tmps)=true:=by simp [Region.wanted,hg]
 rw [aH hw];have e:execOp a.eval o=callFunc f args:=by
  cases o
  simp only at nx;subst nx;rw [<- ha];rfl
 unfold Oper.wp;rw [e,hc,Oper.upon_enter];refine hC.mono ?_;intro r w' hr;obtain ⟨v,rfl,hK⟩:=h r w' hr;exact hK
theorem uD {Z:Nat->Prop}{w wr w2:World}{q base S:Nat}{cols:List cU}{cv oE sv mv:Value}{vs:List Value}{Ds Es:List (List (List aL))}{M:List (List aL)}{n:Int}{k:Nat}(h:Adding Z w wr q base S cols cv oE sv mv vs Ds Es M n k)(hb:Below wr.heap.size wr w2):Adding Z w w2 q base S cols cv oE sv mv vs Ds Es M n k:=
 ⟨h.tab.below hb,h.bat.moves hb.size (λb h _=>hb.block b h),h.full,h.done,h.each,h.pos,h.V1⟩
theorem fC.sub {M M':Nat->Prop}{w:World}{v:Value}{L:List (List aL)}(h:fC M w v L)(hM:∀b,M' b->M b):fC M' w v L:=by
 obtain ⟨h0,vs,h1,h2⟩:=h;exact ⟨λa n c hv hm=>h0 a n c hv (hM _ hm),vs,h1,λi c hi=>by obtain ⟨u,h3,h4,h5⟩:=h2 i c hi;exact ⟨u,h3,h4,λa n cc hv hm=>h5 a n cc hv (hM _ hm)⟩⟩
theorem Adding.step {Z:Nat->Prop}{w wr w4 w5:World}{q base S:Nat}{cols:List cU}{cv oE sv mv u:Value}{vs:List Value}{Ds Es:List (List (List aL))}{M:List (List aL)}{n:Int}{k:Nat}(h:Adding Z w wr q base S cols cv oE sv mv vs Ds Es M n k)(hb:Below wr.heap.size wr w4){ss:List ByteArray}{ch:List (List aL)}(hu:w4.ownsRow wr.heap.size 9 1 u ss.length (ss.map .string))(DJ:Sj (cols.map (·.2)) (bX cols.length ch) ss)(IC:ch=(M.drop k).take (min (k+S) M.length - k))(hk:k<M.length){g cap:Nat}
 (br:w5.ownsRow base 196 1 (.slice (some ⟨g,0,none⟩) ((Ds++Es).length+1) cap) ((Ds++Es).length+1) (vs++[u])) (hg:(w4.alloc (.cells #[u] 196)).grownBy w5 sv.ownBlock) (BF:sv.ownBlock=some g\/g=w4.heap.size+1) (NR:0<cols.length) (hS:1<=S) :
 Adding Z w (w5.setCell ⟨q,1,none⟩ (.slice (some ⟨g,0,none⟩) ((Ds++Es).length+1) cap)) q base S cols cv oE (.slice (some ⟨g,0,none⟩) ((Ds++Es).length+1) cap) mv (vs++[u]) Ds (Es++[ch]) M n (k+S)/\w5.cell? ⟨q,1,none⟩=some sv/\w5.frozen? ⟨q,1,none⟩=false:=by
 have bO:Below w4.heap.size w4 (w4.alloc (.cells #[u] 196)):=(ag _ _).alloc (af _) _;have eD:=hb.trans (bO.mono hb.size);have hA:=h.tab.below eD;have VL:gQ (jP q sv) u:=λa m c hv hm=>by
  subst hv;obtain ⟨va,cJ,he,Eu,-⟩:=di hu
  cases he
  have hl:ss.length=cols.length:=by have:=DJ.1;rw [aW] at this;exact this.symm
  obtain ⟨g2,V2,qF⟩:=Eu (by omega)
  cases V2
  rcases hm with e|e
  . have:=az h.tab.dV;simp at e;omega
  . have:=(h.tab.own.lt _ e).2;simp at this;omega
 have hzu:gQ Z u:=λa m c hv hm=>by
  subst hv;obtain ⟨va,cJ,he,Eu,-⟩:=di hu
  cases he
  have hl:ss.length=cols.length:=by have:=DJ.1;rw [aW] at this;exact this.symm
  obtain ⟨g2,V2,qF⟩:=Eu (by omega)
  cases V2
  have h1:=h.tab.zin _ hm;have:=h.tab.keep.size;simp at h1;omega
 have EV:0<ss.length:=by have:=DJ.1;rw [aW] at this;omega
 have Gp:sv.ownBlock=some g\/(w4.alloc (.cells #[u] 196)).heap.size<=g:=BF.imp id (λe=>by simp;omega);obtain ⟨hA5,bW⟩:=hA.OX (bF.below (bF.jt hu) bO (af _)) VL hzu DJ EV br hg Gp NR;obtain ⟨-,c1,-⟩:=aR bW;have hMl:0<M.length:=by omega
 have vQ:∀c∈bX cols.length M,0<c.length:=λc hc=>by rw [mI hc];exact hMl
 have hlen:ch.length=min S (M.length - k):=by rw [IC,bV,cu];omega
 have amF:ch=(M.drop k).take S:=by
  rw [IC];by_cases h2:k+S<=M.length
  . rw [gj h2,Nat.add_sub_cancel_left]
  . rw [pO (by omega),aP (by rw [cu];exact af _),aP (by rw [cu];omega)]
 refine ⟨⟨by rw [<- bh];exact hA5,?_,h.full,?_,λi d hd=>?_,?_,λhl d hd=>?_⟩,c1,lz bW 1⟩
 . have b3:=h.bat.moves eD.size (λb hh _=>eD.block b hh)
   have b4:=b3.weaken (M':=λb=>jP q sv b\/b=g) (λb hm=>hm.imp id id |>.elim .inl (λe=>Gp.elim (λe2=>.inl (.inr (by rw [e2,e]))) (λe2=>.inr (by omega)))) (by rw [bC];exact NR) vQ;have b5:=b4.moves (w':=w5) hg.size (λb hh hm=>hg.block b hh (λe=>hm (.inl (.inr e.symm))));have b6:=b5.moves (w':=w5.setCell ⟨q,1,none⟩ (.slice (some ⟨g,0,none⟩) ((Ds++Es).length+1) cap)) (by simp [World.setCell]) (λb hh hm=>aD _ _ _ _ (show b≠q from λe=>hm (.inl (.inl e))));exact b6.sub (λb hm=>by
    rcases hm with e|e
    . exact .inl (.inl e)
    . simp [Value.ownBlock] at e;exact .inr e.symm)
 . rw [il,h.done,amF,List.take_add];simp
 . rw [jc] at hd
   split at hd
   . have:=h.V1 hk d (aG hd)
     exact ⟨by omega,by omega,λ_=>this⟩
   . have hl:=(ak.mp hd).1
     simp at hl;have e0:i - Es.length=0:=by omega
     rw [e0] at hd
     cases hd
     exact ⟨by omega,by omega,λhh=>by simp at hh;omega⟩
 . rw [au,lA,<- h.pos];simp
 . rw [dm,dy] at hd
   rcases hd with hd|rfl
   . exact h.V1 hk d hd
   . rw [hlen];omega
theorem Adding.few {Z:Nat->Prop}{w wr:World}{q base S:Nat}{cols:List cU}{cv oE sv mv:Value}{vs:List Value}{Ds Es:List (List (List aL))}{M:List (List aL)}{n:Int}{k:Nat}(h:Adding Z w wr q base S cols cv oE sv mv vs Ds Es M n k)(hS:1<=S)(hd:Ds.flatten.length<=64)(hk:k<=100):(Ds++Es).length<=1000:=by
 have h1:=tj h.full;have h2:=h.pos;have h3:Ds.length<=Ds.length*S:=ox _ hS;have h4:Es.length<=Es.length*S:=ox _ hS;rw [au];omega
theorem V3 {wr w5:World}{q b base n:Nat}{sv v:Value}{vs:List Value}{cs:Array Value}(br:wr.ownsRow base 196 1 sv n vs)(ho:wr.heap[b]?=some (.cells cs 50 (0,0)))(hg:wr.grownBy w5 sv.ownBlock)(hq:b≠q):(w5.setCell ⟨q,1,none⟩ v).heap[b]?=some (.cells cs 50 (0,0)):=by
 refine (aD _ _ _ _ hq).trans ((hg.block b (az ho) (λe=>?_)).trans ho);rcases br.2 with ⟨rfl,-⟩|⟨g,cap,cur,rfl,-,hc,-⟩
 . cases e
 . simp [Value.ownBlock] at e
   subst e;rw [ho] at hc
   cases hc
theorem Tryz.V4:(Tryz.prog.info? 196).map (λi=>(i.zero,i.size,i.bytes))=some (some (.slice none 0 0),1,24):=by kernel_rfl
theorem yV {w1:World}{r:Nat}{a b c d e f:Value}{t:TypeId}(h:w1.heap[r]?=some (.cells #[a,b,c,d,e,f] t (0,0))):w1.cell? ⟨r,0,none⟩=some a/\w1.cell? ⟨r,1,none⟩=some b:=by simp [World.cell?,h]
theorem ZM {Z:Nat->Prop}{w:World}{q base:Nat}{cols:List cU}{cv sv mv:Value}{vs:List Value}{Cs:List (List (List aL))}{new:List (List aL)}(o:rO){N:Nat}(hN:N=Cs.flatten.length)(ht:py Z w w q base cols cv sv sv vs Cs N)(IC:lF o.seg Cs)(hm:fC (jP q sv) w mv (bX cols.length new))(uA:jh cols Cs.flatten)(yO:jh cols new)(hlen:N+new.length<=64)(h0:0<new.length)(hk:∀c∈cols,c.2<=2)(NR:0<cols.length)(UK:cols.length<=5)(qv:base<=w.heap.size) :
 Calls Tryz.prog 219 #[.pointer (some ⟨q,0,none⟩),mv,.int .i64 new.length,.agg (SC o).toArray] w λr w'=>r=.returned (.tuple #[])/\∃Da Bk tr,py Z w w' q base cols cv sv Da Bk tr (N+new.length:Nat)/\lF o.seg tr/\tr.flatten=Cs.flatten++new:=by
 have kX:Below w.heap.size w (w.alloc (mr o)):=(ag _ _).alloc (af _) _;have LR:=ht.below kX;have hM0:=hm.moves kX.size (λb h _=>kX.block b h);obtain ⟨t0,t1,t2⟩:=aR LR.dV;obtain ⟨i0,yv,jS,jD,jv⟩:=lE Tryz.V4;have Zq:=o.s1;have asN:=o.s16;have HOW:=hide (ai w (mr o));have HK:=hide hk;have BA:=ht.lq;unfold SC;rcases IC.last with ⟨hz,kT⟩|⟨Ds,c,hCs,hD,Ev,hcS,ahi⟩
 case' inl=>
  rw [<- hN] at hz;have e0:((N:Int) % (o.seg:Int))=0:=by omega
  obtain ⟨M,DN⟩:∃M,M=new:=⟨_,rfl⟩;obtain ⟨NI,hNI⟩:∃NI:Int,NI=N:=⟨_,rfl⟩;obtain ⟨Ds,hDs⟩:∃Ds,Ds=Cs:=⟨_,rfl⟩;have YF:Hid (Adding Z w (w.alloc (mr o)) q base o.seg cols cv sv sv mv vs Ds [] M NI 0):=hide ⟨by rw [bH,hNI,hDs];exact LR,by rw [DN];exact hM0,by rw [hDs];exact kT,by simp,λi d h=>by simp at h,by simp,λ_ d h=>by simp at h⟩;have HMF:Hid (jh cols M):=hide (by rw [DN];exact yO);have HML:Hid (M.length<=64/\0<M.length):=hide (by rw [DN];omega);have HFL:Hid (Ds.flatten++M=Cs.flatten++new):=hide (by rw [DN,hDs]);have J1:Hid (Ds.flatten.length<=64):=hide (by rw [hDs];omega);have HNI:Hid (NI+M.length=(N+new.length:Nat)):=hide (by rw [hNI,DN];omega);have Gv:Hid (0<=NI/\NI<=64):=hide (by omega);have hRL:(new.length:Int)=M.length:=by rw [DN]
  have HRL:=hide hRL;clear ht IC hm kX LR hM0 uA yO hk hz kT hN DN hNI hDs hRL;go_enter Tryz.func219,Tryz.ntmps219;go_wp2_with fail;go_quiet (fail);go_wp2_with fail;rw [ae HRL];have YF:=hide (uD (ae YF) (below_drewN (ag _ _) nq));have HOW:Hid (((w.alloc (mr o)).drewN nq).heap[w.heap.size]?=some (mr o)):=HOW;obtain ⟨W,hW⟩:∃W,W=(w.alloc (mr o)).drewN nq:=⟨_,rfl⟩;rw [<- hW] at YF HOW ⊢;obtain ⟨MV,hMV⟩:∃MV,MV=mv:=⟨_,rfl⟩;rw [<- hMV] at YF ⊢;clear hW t0 t1 t2 hMV
 case' inr=>
  have apV:((N:Int) % (o.seg:Int))=c.length:=by rw [<- hN] at ahi;omega
  have Db:Cs.length=Ds.length+1:=by rw [hCs];simp
  have Cz:=LR.own;obtain ⟨d,hd⟩:∃d,Ds.length=d:=⟨_,rfl⟩;rw [Db,hd] at Cz;obtain ⟨sa,mb,he,hsa,apX⟩:=di Cz;have amG:(d:Int)<=mb:=by omega
  obtain ⟨sg,amH,hsg⟩:=hsa (by omega);subst amH;rw [he] at t1;have Im:=Cz;rw [he] at Im;have G7:vs.length=d+1:=by rw [LR.qE.1,Db,hd]
  obtain ⟨u,hu⟩:∃u,vs[d]?=some u:=⟨vs[d]'(by omega),ah _⟩;have s0:(w.alloc (mr o)).cell? ⟨sg,d,none⟩=some u:=(Im.cellAt d (by omega)).trans hu;obtain ⟨ss,htx,DJ⟩:=LR.qE.2 d u c hu (by rw [hCs,bm (by omega),hd];simp);have amI:(0:Int)<c.length:=by omega
  have hNf:N=Ds.length*o.seg+c.length:=by rw [hN,hCs,il,au,tj hD];simp
  have hdf:Ds.flatten.length=Ds.length*o.seg:=tj hD;have asQ:d<=64:=by
   have:Ds.length<=Ds.length*o.seg:=ox _ Zq;omega
  obtain ⟨ua,td,heu⟩:=bF.slice htx;subst heu;obtain ⟨M,DN⟩:∃M,M=c++new:=⟨_,rfl⟩;obtain ⟨NI,hNI⟩:∃NI:Int,NI=(N:Int) - c.length:=⟨_,rfl⟩;have asS:sg<w.heap.size:=by
   have:=(ht.own.lt sg (by rw [he];rfl)).2;exact this
  have ahn:=hide (λ(nq:Nat) (w2 w3:World) (mv3:Value) (h2:Below ((w.alloc (mr o)).drewN nq).heap.size ((w.alloc (mr o)).drewN nq) w2) (h3:Below ((w.alloc (mr o)).drewN nq).heap.size w2 w3) (eD:fC (·<((w.alloc (mr o)).drewN nq).heap.size) w3 mv3 (ti (bX cols.length c) (bX cols.length new)))=>(show (Adding Z w ((w3.setCell ⟨q,1,none⟩ (.slice (some ⟨sg,0,none⟩) d mb)).setCell ⟨q,2,none⟩ (.int .i64 NI)) q base o.seg cols cv sv (.slice (some ⟨sg,0,none⟩) d mb) mv3 (vs.take d) Ds [] M NI 0)/\w3.heap[q]?=some (.cells #[cv,.slice (some ⟨sg,0,none⟩) (d+1) mb,.int .i64 N] 194 (0,0))/\((w3.setCell ⟨q,1,none⟩ (.slice (some ⟨sg,0,none⟩) d mb)).setCell ⟨q,2,none⟩ (.int .i64 NI)).heap[w.heap.size]?=some (mr o) from by
   have UR:Below (w.alloc (mr o)).heap.size (w.alloc (mr o)) ((w.alloc (mr o)).drewN nq):=below_drewN (ag _ _) nq;have hz:((w.alloc (mr o)).drewN nq).heap.size=(w.alloc (mr o)).heap.size:=rfl;rw [hz] at h2 h3 eD;have amJ:=UR.trans (h2.trans h3);have A3:=LR.below amJ;have hws:w.heap.size<(w.alloc (mr o)).heap.size:=by simp
   have ZL:∀x∈vs.take d,gQ (jP q (.slice (some ⟨sg,0,none⟩) d mb)) x:=λx hx a n cc hv hm=>A3.IB x (fx hx) a n cc hv (by rw [he];exact hm.imp id id);have V0:sJ w3 cols (vs.take d) Ds:=by
    refine ⟨by rw [bV,G7,hd];omega,λi x e h1 h2=>?_⟩;have hi:=(ak.mp h2).1;rw [fy,aH (by omega)] at h1;exact A3.qE.2 i x e h1 (by rw [hCs,bQ hi];exact h2)
   have ld:w3.ownsRow base 196 1 (.slice (some ⟨sg,0,none⟩) Ds.length mb) Ds.length (vs.take d):=by
    have h:=A3.own;rw [he,Db,hd] at h;have:=LQ h (cq d) (by omega);rw [kK] at this;rw [hd];exact this
   rw [hd] at ld;have P1:=A3.put (i:=1) (u:=.slice (some ⟨sg,0,none⟩) d mb) (sv2:=.slice (some ⟨sg,0,none⟩) d mb) (n2:=N) (vs2:=vs.take d) (Ds2:=Ds) rfl (by rw [hd];exact ld) V0 (λg hg=>.inl (by rw [he];exact hg)) (by have:=A3.off;rw [he] at this;exact this) (λa n cc hv hm=>A3.K9 a n cc hv (by rw [he];exact hm.imp id id)) ZL (λx hx=>A3.YE x (fx hx));have P2:=P1.put (i:=2) (u:=.int .i64 NI) (sv2:=.slice (some ⟨sg,0,none⟩) d mb) (n2:=NI) (vs2:=vs.take d) (Ds2:=Ds) rfl P1.own P1.qE P1.row P1.off P1.K9 P1.IB P1.YE;have Gt:∀i v (x:World),(x.setCell ⟨q,i,none⟩ v).heap[w.heap.size]?=x.heap[w.heap.size]?:=λi v x=>aD _ _ _ _ (show w.heap.size≠q by omega);refine ⟨⟨by rw [bH];exact P2,?_,hD,by simp,λi d h=>by simp at h,by simp,λ_ d h=>by simp at h⟩,by have:=A3.dV;rw [he] at this;exact this,?_⟩
   . rw [DN,<- Cy]
     have b4:=(eD.sub (M':=jP q (.slice (some ⟨sg,0,none⟩) d mb)) (λb hm=>by rcases hm with e|e;omega;simp [Value.ownBlock] at e;omega));have mv1:=b4.moves (w':=w3.setCell ⟨q,1,none⟩ (.slice (some ⟨sg,0,none⟩) d mb)) (by simp [World.setCell]) (λb hh hm=>aD _ _ _ _ (show b≠q from λe=>hm (.inl e)));exact mv1.moves (by simp [World.setCell]) (λb hh hm=>aD _ _ _ _ (show b≠q from λe=>hm (.inl e)))
   . rw [Gt,Gt]
     exact ((h3.block _ hws).trans ((h2.block _ hws).trans (UR.block _ hws))).trans (ai w (mr o))))
  have ZN:=hide (λnq=>Aa (w:=(w.alloc (mr o)).drewN nq) (bF.below htx (below_drewN (ag _ _) nq) (af _)) DJ (by have:=DJ.1;rw [aW] at this;omega));have HJO:=hide (λnq (w2:World) v1 EW (h2:Below ((w.alloc (mr o)).drewN nq).heap.size ((w.alloc (mr o)).drewN nq) w2) (h1:oH w2 ((w.alloc (mr o)).drewN nq).heap.size v1 EW (bX cols.length c))=>OV (sv:=mv) (S:=bX cols.length new) h1 (λw' h=>hM0.batch.below ((below_drewN (ag _ _) nq).trans (h2.trans h)) (af _)) (by rw [bC,bC]) (by rw [bC];omega) (λi a b ha hb=>by have e1:=mI (aG ha);have e2:=mI (aG hb);omega) h2.size);have HMF:Hid (jh cols M):=hide (by rw [DN];intro r hr;rw [dm] at hr;rcases hr with hr|hr;exact uA r (by rw [hCs,il];simp [hr]);exact yO r hr);have HML:Hid (M.length<=64/\0<M.length):=hide (by rw [DN,au];omega);have HFL:Hid (Ds.flatten++M=Cs.flatten++new):=hide (by rw [DN,hCs,il];simp);have J1:Hid (Ds.flatten.length<=64):=hide (by omega);have HNI:Hid (NI+M.length=(N+new.length:Nat)):=hide (by rw [hNI,DN,au];omega);have Gv:Hid (0<=NI/\NI<=64):=hide (by omega);have HRL:Hid ((new.length:Int)+c.length=M.length):=hide (by rw [DN,au];omega);have ZB:Hid ((N:Int) - c.length=NI):=hide hNI.symm;have hNc:(c.length:Int)<=N:=by omega
  clear ht IC hm kX LR hM0 uA yO hk hN ahi htx DJ hu Cz Im Db hd hNf hdf DN hNI hCs hD he hsa;go_enter Tryz.func219,Tryz.ntmps219;go_wp2_with fail;go_quiet (fail);go_wp2_with fail;refine (ae ZN nq).mono ?_;rintro r w2 ⟨v1,EW,rfl,yW,bO⟩;have HJ:=hide (ae HJO nq w2 v1 EW bO yW);have jg:=hide bO;obtain ⟨fa,ady,rfl,-,-⟩:=di yW.row;clear yW bO HJO ZN;go_wp2_with fail;refine (ae HJ).mono ?_;rintro r w3 ⟨mv3,rfl,eD,hbb⟩;obtain ⟨hAD,Hc,aho⟩:=ae ahn nq w2 w3 mv3 (ae jg) hbb eD;obtain ⟨t0,t1,t2⟩:=aR Hc;have fz1:=lz Hc 1;have fz2:=lz Hc 2;have YF:=hide hAD;have HOW:=hide aho;obtain ⟨xa,amM,rfl⟩:=eD.batch.slice;clear hAD aho Hc eD hbb ahn HJ;go_wp2_with fail;rw [ae HRL,ae ZB];obtain ⟨W,hW⟩:∃W,W=(w3.setCell ⟨q,1,none⟩ (.slice (some ⟨sg,0,none⟩) d mb)).setCell ⟨q,2,none⟩ (.int .i64 NI):=⟨_,rfl⟩;rw [<- hW] at YF HOW ⊢;obtain ⟨MV,hMV⟩:∃MV,MV=Value.slice xa (ti (bX cols.length c) (bX cols.length new)).length amM:=⟨_,rfl⟩;rw [<- hMV] at YF ⊢;clear hW t0 t1 t2 fz1 fz2 hMV
 all_goals
  go_loopw [10] (λc wr=>∃(k:Nat) (sv1:Value) (EW:List Value) (Es:List (List (List aL))),c=.int .i64 k/\Hid (Adding Z w wr q base o.seg cols cv sv sv1 MV EW Ds Es M NI k)/\Hid (wr.heap[w.heap.size]?=some (mr o))) (λc _=>100 - (intOf c).toNat)
  case atStart=>exact ⟨0,_,_,[],rfl,YF,HOW⟩
  case round=>
   obtain ⟨k,sv1,EW,Es,rfl,HA,HO⟩:=hrel;obtain ⟨OU,hm0⟩:=ae HML;by_cases ZO:k<M.length
   . have amO:(k:Int)<M.length:=by omega
     have hA:=ae HA;obtain ⟨o0,o1⟩:=yV (ae HO);obtain ⟨t0,t1,t2⟩:=aR hA.tab.dV;obtain ⟨b,hb⟩:∃b,b=min (k+o.seg) M.length:=⟨_,rfl⟩;have HP:=hide (ZH (a:=k) (b:=b) hA.bat.batch (by omega) (λc hc=>by rw [mI hc];omega) (by rw [bC];omega));have HB:=hide hb;have UD:((k:Int)+o.seg<=M.length/\(b:Int)=(k:Int)+o.seg)\/((M.length:Int)<(k:Int)+o.seg/\(b:Int)=M.length):=by omega
     have HBE:Hid (b - k<=64):=hide (by omega);clear hA hb;rcases UD with ⟨adE,YG⟩|⟨adE,YG⟩
     all_goals
      rw [YG] at HP;go_wp2_with fail;refine (ae HP).mono ?_;rintro r w2 ⟨pv,rfl,hpv,bO⟩;have hA2:=uD (ae HA) bO;obtain ⟨t0,t1,t2⟩:=aR hA2.tab.dV;have ZP:=(bO.block _ (az (ae HO))).trans (ae HO);obtain ⟨o0,o1⟩:=yV ZP;obtain ⟨pa,amQ,he⟩:=hpv.slice;unfold Bz at he;rw [aW,bC] at he;subst he;have ZQ:=aJ (ag w2.heap.size w2);rw [EU] at hpv;obtain ⟨ch,ZR⟩:∃ch,ch=(M.drop k).take (b - k):=⟨_,rfl⟩;rw [<- ZR] at hpv;have hAd:=uD hA2 ZQ;have HPK:=hide (OT (p:=o.pk) hAd.tab.dV hAd.tab.Hb (hpv.below ZQ (af _)) (bC _ _) (ae HK) (λi col kk h1 h2=>ZJ (λr hr=>ae HMF r (by rw [ZR] at hr;exact jb (fx hr))) h1 h2) (λcol hc=>by have:=ae HBE;rw [mI hc,ZR,bV];omega) (by omega) (by have:=o.p3;omega) (by rw [bC];omega));have ahr:=hAd.tab.own;obtain ⟨va1,vc1,he,amS,-⟩:=di ahr;subst he;have pC:=hide (λw4 u ss (h1:Below w2.drew.heap.size w2.drew w4) h2 h3 g gcap w5 h4 h5 h6=>hAd.step (w4:=w4) (w5:=w5) (u:=u) (ss:=ss) (ch:=ch) (g:=g) (cap:=gcap) h1 h2 h3 (by rw [ZR,ae HB]) ZO h4 h5 h6 NR Zq);have YH:=hide (λw4 (h1:Below w2.drew.heap.size w2.drew w4)=>And.intro (hAd.tab.below h1).dV (And.intro (hAd.tab.below h1).own (And.intro (show w2.heap.size<=w4.heap.size from h1.size) ((h1.block _ (az ZP)).trans ZP))));have hbz:base<=w2.heap.size:=by have:=hA2.tab.keep.size;omega
      have yX:=hA2.few Zq (ae J1) (by omega);obtain ⟨nn,UL⟩:∃nn,(Ds++Es).length=nn:=⟨_,rfl⟩;rw [UL] at pC YH t1 yX;clear hA2 hpv HP hAd ahr ZQ YG bO UL amS ZP;go_wp2_with fail;go_region_law (first
       | (refine iV rfl 228 _ _ rfl Tryz.call228 #[.pointer (some ⟨q,0,none⟩),.slice pa cols.length amQ,.int .i64 o.pk] (by first|(simp [Act.eval];done)|(simp [Act.eval,Act.put];done)|rfl) _ (ae HPK) ?_;rintro r w4 ⟨u,ss,rfl,hu,DJ,me⟩;refine ⟨_,rfl,?_⟩;obtain ⟨Q6,hso,kd,hoo⟩:=ae YH w4 me;obtain ⟨ua,td,rfl,-,-⟩:=di hu;obtain ⟨u0,u1,u2⟩:=aR Q6;obtain ⟨y0,y1,y2⟩:=aR ((bA w4 (.cells #[.slice ua ss.length td] 196) _ (az Q6)).trans Q6);have HU:=hide hu;have HSS:=hide DJ;have DP:=hide me;have IE:=hide (hso.alloc (.cells #[.slice ua ss.length td] 196));have yU:=hide (World.news_of_block (ai w4 (.cells #[.slice ua ss.length td] 196)));have HZ4:Hid ((w4.alloc (.cells #[.slice ua ss.length td] 196)).heap.size=w4.heap.size+1):=hide (by simp);have HOO:=hide ((bA w4 (.cells #[.slice ua ss.length td] 196) _ (az hoo)).trans hoo);clear hu DJ me hso Q6 hoo)
       | (refine step_append_lies _ rfl (.tmp 77) (.tmp 83) 192 rfl base 196 i0 _ 1 24 Tryz.underlying192 yv jS jD jv rfl (by decide) _ _ _ (by simp [Act.eval]) (ae IE) ⟨w4.heap.size,0,none⟩ 1 1 [.slice ua ss.length td] (by simp [Act.eval]) rfl (ae yU) (by simp [Value.oneCell']) (by decide) (by unfold maxLen;omega) (by omega) (by rw [ae HZ4];omega) (w4.heap.size+1) (ae HZ4) ?_;intro g gcap w5 br bE bW _;obtain ⟨hA5,d1,fz⟩:=ae pC w4 _ ss (ae DP) (ae HU) (ae HSS) g gcap w5 br bE bW;have nx:=V3 (q:=q) (v:=.slice (some ⟨g,0,none⟩) (nn+1) gcap) (ae IE) (ae HOO) bE (by omega);obtain ⟨p0,p1⟩:=yV nx;have Hd:=hide nx;have He:=hide hA5;clear hA5 br bE bW nx))
      all_goals
       (try go_wp2_with fail)
       go_roundw
       case rel=>first|exact ⟨k+o.seg,by push_cast;rfl,_,_,_,He⟩|exact ⟨k+o.seg,_,_,_,by push_cast;rfl,He,Hd⟩|exact ⟨k+o.seg,by push_cast;rfl,_,_,_,He,Hd⟩|exact ⟨k+o.seg,by push_cast;rfl,⟨_,_,_,He⟩,Hd⟩
       case measure=>simp [intOf];omega
   . have amO:¬(k:Int)<M.length:=by omega
     have hA:=ae HA;obtain ⟨t0,t1,t2⟩:=aR hA.tab.dV;have fz2:=lz hA.tab.dV 2;obtain ⟨US,asV⟩:=ae Gv;have hE:Es.flatten=M:=by rw [hA.done,aP (by omega)]
     have P:=hA.tab.put (i:=2) (u:=.int .i64 (NI+M.length)) (sv2:=sv1) (n2:=NI+M.length) (vs2:=EW) (Ds2:=Ds++Es) rfl hA.tab.own hA.tab.qE hA.tab.row hA.tab.off hA.tab.K9 hA.tab.IB hA.tab.YE;have wG:Hid (∃Da Bk tr,py Z w (wr.setCell ⟨q,2,none⟩ (.int .i64 (NI+M.length))) q base cols cv sv Da Bk tr (N+new.length:Nat)/\lF o.seg tr/\tr.flatten=Cs.flatten++new):=hide ⟨sv1,EW,Ds++Es,by rw [<- ae HNI];exact P,λi d hd=>by
      rw [jc] at hd;split at hd
      . have:=hA.full d (aG hd)
        exact ⟨by omega,by omega,λ_=>this⟩
      . have:=hA.each _ d hd
        exact ⟨this.1,this.2.1,λh=>this.2.2 (by rw [au] at h;omega)⟩,by rw [il,hE];exact ae HFL⟩
     clear hA hE P;go_wp2_with fail;go_end0;exact ⟨rfl,ae wG⟩
def lf (r:Nat)(cv:Value)(vs:List Value)(b:Nat):Prop:=b=r\/cv.ownBlock=some b\/∃u∈vs,u.ownBlock=some b
structure jL (w1 wr:World)(r base:Nat)(kv cv:Value)(Dc vs:List Value)(L:List (List aL))(k:Int):Prop where
 dV:wr.heap[r]?=some (.cells #[kv,cv,.int .i64 k] 150 (0,0))
 own:oH wr base cv vs L
 fresh:∀u∈vs,∀g,u.ownBlock=some g->(∃u0∈Dc,u0.ownBlock=some g)\/w1.heap.size<=g
 keep:aQ (λb=>b<w1.heap.size/\¬lf r cv Dc b) w1 wr
 Kd:cv.ownBlock≠some r
 EX:∀u∈vs,u.ownBlock≠some r
 lr:r<w1.heap.size
section
variable {w1 wr w2:World} {r base:Nat} {kv cv:Value} {Dc vs:List Value} {L:List (List aL)} {k:Int}
theorem oH.below {w w':World}{v:Value}(h:oH w base v vs L)(hb:Below w.heap.size w w'):oH w' base v vs L:=⟨du h.row hb,h.each.below hb,h.off⟩
theorem jL.below (h:jL w1 wr r base kv cv Dc vs L k)(hb:Below wr.heap.size wr w2):jL w1 w2 r base kv cv Dc vs L k:=
 ⟨(hb.block r (az h.dV)).trans h.dV,h.own.below hb,h.fresh,h.keep.trans ⟨hb.os,hb.tape,hb.output,hb.size,λb hk=>hb.block b (aF hk.1 h.keep.size)⟩,h.Kd,h.EX,h.lr⟩
theorem jL.old (h:jL w1 wr r base kv cv Dc vs L k){b:Nat}(hb:b<w1.heap.size)(hn:¬lf r cv Dc b):wr.heap[b]?=w1.heap[b]?:=h.keep.block b ⟨hb,hn⟩
theorem jL.OX {g0 n cap:Nat}(h:jL w1 wr r base kv (.slice (some ⟨g0,0,none⟩) n cap) Dc vs L k)(hn:L.length=n){i:Nat}{u:Value}{a:List aL}{c:aL}(hu:vs[i]?=some u)(ha:L[i]?=some a){w3:World}{g gcap:Nat}{o:Obj}
 (br:w3.ownsRow base 214 3 (.slice (some ⟨g,0,none⟩) (a.length+1) gcap) (a.length+1) (bw a++nw c)) (hg:(wr.alloc o).grownBy w3 u.ownBlock) (hb:u.ownBlock=some g\/g=wr.heap.size+1) :
 jL w1 (w3.setCell ⟨g0,i,none⟩ (.slice (some ⟨g,0,none⟩) (a.length+1) gcap)) r base kv (.slice (some ⟨g0,0,none⟩) n cap) Dc (vs.set i (.slice (some ⟨g,0,none⟩) (a.length+1) gcap)) (L.set i (a++[c])) k/\(∃x,w3.cell? ⟨g0,i,none⟩=some x)/\w3.frozen? ⟨g0,i,none⟩=false/\w3.heap[r]?=some (.cells #[kv,.slice (some ⟨g0,0,none⟩) n cap,.int .i64 k] 150 (0,0)):=by
 have hi:i<n:=by rw [<- hn];exact (ak.mp ha).1
 have kX:Below wr.heap.size wr (wr.alloc o):=(ag _ _).alloc (af _) _;have hA:=h.below kX;have IG:=(h.own.row.lt g0 rfl).2;have kd:(wr.alloc o).heap.size=wr.heap.size+1:=by simp
 have asW:=(h.own.row.lt g0 rfl).1;have Q7:=aG hu;have tu:g≠g0:=by
  rcases hb with e|e
  . intro e2;exact h.own.off i u g hu e (by rw [e2];rfl)
  . omega
 have iu:g≠r:=by
  rcases hb with e|e
  . intro e2;exact h.EX u Q7 (by rw [e,e2])
  . have:=az h.dV;omega
 have zR:∀j x,j≠i->vs[j]?=some x->x.ownBlock≠some g:=by
  intro j x hj hx e2;rcases hb with e|e
  . exact h.own.each.apart i j u x g (λe=>hj e.symm) hu hx e e2
  . have:=(h.own.each.lt hx e2).2;omega
 have vL:=dJ hA.own.row hg (λk hk e=>h.own.off i u k hu hk (by simpa using e));rw [hn] at vL;have iP:=(vL.stored i (.slice (some ⟨g,0,none⟩) (a.length+1) gcap)).1;have Q8:=grownBy_setCell w3 ⟨g0,i,none⟩ (.slice (some ⟨g,0,none⟩) (a.length+1) gcap);have bW:w3.heap[r]?=some (.cells #[kv,.slice (some ⟨g0,0,none⟩) n cap,.int .i64 k] 150 (0,0)):=(hg.block r (az hA.dV) (λe=>h.EX u Q7 e.symm)).trans hA.dV;have gS:w3.ownsRow base 214 3 (.slice (some ⟨g,0,none⟩) (a.length+1) gcap) (a++[c]).length (bw (a++[c])):=by
  have e:bw (a++[c])=bw a++nw c:=by simp [bw]
  rw [e,au];exact br
 have V5:r≠g0:=λe=>h.Kd (by rw [e];rfl);refine ⟨⟨(aD _ _ _ _ V5).trans bW,⟨by rw [iz,hn];exact iP,?_,λj x m h1 h2=>?_⟩,λx hx m hm=>?_,?_,h.Kd,λx hx e=>?_,h.lr⟩,?_,vL.frozenAt i,bW⟩
 . exact hA.own.each.set (dJ gS Q8 (λk hk e=>by cases hk;simp [Value.ownBlock] at e;exact tu e)) (λj x y hj h1 h2=>dJ (dJ (hA.own.each.own j x y h1 h2) hg (λk hk e=>h.own.each.apart i j u x k (λe=>hj e.symm) hu h1 hk e)) Q8 (λk hk e=>by cases hk;exact h.own.off j x g0 h1 e rfl)) (λj x m hj h1 hm=>by simp [Value.ownBlock] at hm;subst hm;exact zR j x hj h1)
 . rw [bq] at h1
   split at h1
   . split at h1
     . cases h1;simp [Value.ownBlock] at h2;subst h2;simp [Value.ownBlock];exact λe=>tu e.symm
     . cases h1
   . exact h.own.off j x m h1 h2
 . rcases nA hx with hx|rfl
   . exact h.fresh x hx m hm
   . simp [Value.ownBlock] at hm
     subst hm;rcases hb with e|e
     . exact h.fresh u Q7 g e
     . have:=h.keep.size;exact .inr (by omega)
 . have tq:aQ (λb=>b<w1.heap.size/\¬lf r (.slice (some ⟨g0,0,none⟩) n cap) Dc b) w1 w3:=hA.keep.trans ⟨hg.os,hg.tape,hg.output,hg.size,λb hk=>hg.block b (aF hk.1 hA.keep.size) (λe=>by
    rcases h.fresh u Q7 b e.symm with ⟨u0,h1,h2⟩|e2
    . exact hk.2 (.inr (.inr ⟨u0,h1,h2⟩))
    . exact absurd hk.1 (by omega))⟩
   exact tq.setCell (p:=⟨g0,i,none⟩) (λhk=>hk.2 (.inr (.inl rfl))) _
 . rcases nA hx with hx|rfl
   . exact h.EX x hx e
   . simp [Value.ownBlock] at e;exact iu e
 . rw [vL.cellAt i (by omega)]
   exact ⟨_,ah (by have:=vL.1;omega)⟩
theorem jL.count (h:jL w1 wr r base kv cv Dc vs L k)(k2:Int):jL w1 (wr.setCell ⟨r,2,none⟩ (.int .i64 k2)) r base kv cv Dc vs L k2:=by
 have Q8:=grownBy_setCell wr ⟨r,2,none⟩ (.int .i64 k2);refine ⟨aO wr r 2 _ _ _ h.dV,⟨dJ h.own.row Q8 (λm hm e=>by cases hm;exact h.Kd e),h.own.each.kept Q8 (λi u m hm hi e=>by cases hm;exact h.EX u (aG hi) e),h.own.off⟩,h.fresh,h.keep.setCell (λhk=>hk.2 (.inl rfl)) _,h.Kd,h.EX,h.lr⟩
end
theorem fC.am2 {M:Nat->Prop}{w:World}{v:Value}{b:List (List aL)}(h:fC M w v b){i:Nat}{cs:List aL}(hi:b[i]?=some cs):∃g o cap u,v=.slice (some ⟨g,o,none⟩) b.length cap/\g<w.heap.size/\w.cell? ⟨g,o+i,none⟩=some u/\lD w u cs/\gQ M u:=by
 obtain ⟨-,vs,h1,h2⟩:=h;obtain ⟨u,h3,h4,h5⟩:=h2 i cs hi;obtain ⟨g,o,cap,hv,-,hg,hx⟩:=h1.at (cW (aN _) (ak.mp hi).1);exact ⟨g,o,cap,u,hv,hg,hx i u h3,h4,h5⟩
theorem ZV {M:Nat->Prop}{w:World}{v:Value}{L:List (List aL)}{a b:Nat}(hM:∀b,M b->b<w.heap.size)(hv:fC M w v L)(Iw:a<b)(hb:∀c∈L,b<=c.length)(h5:L.length<=1000):Calls Tryz.prog 86 #[v,.int .i64 a,.int .i64 b] w λr w'=>∃v,r=.returned v/\fC M w' v (Bz a b L)/\Below w.heap.size w w':=by
 obtain ⟨i0,yv,jS,jD,jv⟩:=lE Tryz.pG;have HV:=hide hv;have HC:=hide hb;obtain ⟨va,cJ,he⟩:=hv.batch.slice;subst he;clear hv hb;go_enter Tryz.func86,Tryz.ntmps86;go_wp2_with (at_make;refine dw _ rfl _ _ 148 rfl w.heap.size 198 i0 _ 1 Tryz.underlying148 yv jS jD _ _ _ _ L.length rfl rfl rfl rfl (by rw [jv];omega) (by unfold maxLen;omega) (by simp) ?_;intro w1 br bE);rw [kK,qQ] at br;have eI:Hid (Below w.heap.size w w1):=hide ((ag _ _).grown bE (af _) (by simp));have HO:=hide br;clear br bE yv jS jD jv;go_wp2_with fail;go_loopw [14] (λc wr=>∃(i:Nat) (vs:List Value),i<=L.length/\c=.int .i64 i/\vs.length=i/\Hid (wr.ownsRow w.heap.size 198 1 (.slice (some ⟨w.heap.size,0,none⟩) L.length L.length) L.length (vs++List.replicate (L.length - i) pF))/\Hid (∀(j:Nat) (u:Value) (c:List aL),vs[j]?=some u->L[j]?=some c->lD w u (EO a b c)/\gQ M u)/\Hid (Below w.heap.size w wr)) (λc _=>L.length - (intOf c).toNat)
 case atStart=>exact ⟨0,[],aN _,rfl,rfl,by rw [oZ,fA];exact HO,hide (λj u c h=>by simp at h),eI⟩
 case round=>
  obtain ⟨i,vs,hi,rfl,G7,K7,QY,qx⟩:=hrel;by_cases cF:i<L.length
  . have jI:(i:Int)<L.length:=by omega
    obtain ⟨c,kM⟩:∃c,L[i]?=some c:=⟨L[i],ah cF⟩;have vQ:=ae HC c (aG kM);obtain ⟨g,o,cap,u,he,LH,d0,Yz,VL⟩:=(ae HV).am2 kM
    cases he
    have c0:=((ae qx).cell (p:=⟨g,o+i,none⟩) LH).trans d0;obtain ⟨x,Y9⟩:∃x,c[a]?=some x:=⟨c[a]'(by omega),ah _⟩;obtain ⟨g3,o3,G8,rfl,-⟩:=Yz.get Y9;have GH:c.length<=G8:=by
     rcases Yz.2 with ⟨hz,-⟩|⟨_,_,_,hv,hn,-⟩
     . omega
     . cases hv;exact hn
    have HCU:=hide (show lD w (.slice (some ⟨g3,o3+a*3,none⟩) (b - a) (G8 - a)) (EO a b c)/\gQ M (.slice (some ⟨g3,o3+a*3,none⟩) (b - a) (G8 - a)) from ⟨Yz.cut Iw vQ,λp n c hp hm=>by cases hp;exact VL _ _ _ rfl hm⟩);have fN:(b:Int)<=c.length:=by omega
    have ag4:(b:Int)<=G8:=by omega
    have amv:(a:Int)<=b:=by omega
    have adg:=hide kM;have gC:=ae K7;have fz:=gC.frozenAt i;have d1:=gC.cellAt i (by omega);rw [bm (by omega),cK,aH (by omega)] at d1;have iP:=(gC.stored i (.slice (some ⟨g3,o3+a*3,none⟩) (b - a) (G8 - a))).1;rw [Ab G7 cF] at iP;have pC:=hide iP;clear kM Yz VL Y9 gC d0 iP;go_wp2_with fail;refine ⟨⟨i+1,vs++[_],by omega,by go_num,by simp [G7],pC,hide (λj u c h1 h2=>?_),hide ((ae qx).setCell (af _) _)⟩,by simp [intOf];omega⟩;rw [jc] at h1;split at h1
    . exact ae QY j u c h1 h2
    . have hj:j=i:=by
       have:=(ak.mp h1).1;simp at this;omega
      subst hj;rw [G7,cM] at h1
      cases h1
      rw [ae adg] at h2
      cases h2
      exact ae HCU
  . obtain rfl:i=L.length:=by omega
    have ho:=ae K7;rw [cM,dp,bH] at ho;have HR:Hid (fC M wr (.slice (some ⟨w.heap.size,0,none⟩) L.length L.length) (Bz a b L)):=hide (by
     refine ⟨λp n c hp hm=>by cases hp;have:=hM _ hm;simp at this,vs,by unfold Bz;rw [aW];exact bF.jt ho,λj c hj=>?_⟩;unfold Bz at hj;rw [a7] at hj
     cases hc:L[j]? with
     |none=>rw [hc] at hj;cases hj
     |some d=>
       rw [hc] at hj
       cases hj
       have hjl:=(ak.mp hc).1;exact ⟨vs[j],ah (by omega),bF.below (ae QY j _ d (ah (by omega)) hc).1 (ae qx) (af _),(ae QY j _ d (ah (by omega)) hc).2⟩)
    clear ho;go_wp2_with fail;go_ret;exact ⟨_,rfl,ae HR,ae qx⟩
def Ih (a:List UInt8×Nat×Nat):List Value:=[.string ⟨a.1.toArray⟩,.int .i64 (a.2.1:Nat),.int .i64 (a.2.2:Nat)]
def rP (a:List UInt8×Nat×Nat):Value:=.agg #[.string ⟨a.1.toArray⟩,.int .i64 (a.2.1:Nat),.int .i64 (a.2.2:Nat)]
theorem aaX (n:Int)(w:World):Calls Tryz.prog 16 #[.int .i64 n] w λr w'=>r=.returned (.int .i64 n)/\w'=w:=by
 go_enter Tryz.func16,Tryz.ntmps16;go_wp2_with fail;go_ret;exact ⟨rfl,rfl⟩
theorem sj (seg pk wd bud:Int)(prune push:Bool)(w:World):Calls Tryz.prog 14 #[.agg #[.int .i64 seg,.int .i64 pk,.int .i64 wd,.bool prune,.bool push,.int .i64 bud]] w λr w'=>r=.returned (.agg #[.int .i64 seg,.int .i64 pk,.int .i64 wd,.bool prune,.bool push,.int .i64 bud])/\Below w.heap.size w w':=by
 go_enter Tryz.func14,Tryz.ntmps14;go_wp2_with fail
 first
 | (go_returns;exact ⟨rfl,by repeat (first|exact ag _ _|refine cy ?_ (by simp) _|refine df ?_ (by simp) _)⟩)
 | (go_ret;exact ⟨rfl,by repeat (first|exact ag _ _|refine cy ?_ (by simp) _|refine df ?_ (by simp) _)⟩)
theorem qd {b c:Bool}(h:b=c):Ending.returned (.bool b)=Ending.returned (.bool c):=by rw [h]
theorem Ba (a b:List UInt8×Nat×Nat)(w:World):Calls Tryz.prog 12 #[rP a,rP b] w λr w'=>r=.returned (.bool (decide (a=b)))/\Below w.heap.size w w':=by
 obtain ⟨s,e,p⟩:=a;obtain ⟨s',e',p'⟩:=b;unfold rP;simp only;go_enter Tryz.func12,Tryz.ntmps12;go_wp2_with fail
 all_goals
  go_ret;refine ⟨qd ?_,((ag _ _).alloc (af _) _).alloc (by simp) _⟩;rw [lQ];simp only [beq_iff_eq,decide_eq_true_eq,Prod.mk.injEq,Bool.false_eq_true,false_iff]
  first
  | (constructor
     . exact λh=>⟨by assumption,by omega,by omega⟩
     . exact λh=>by omega)
  |exact λh=>absurd h.1 (by assumption)
  |exact λh=>by omega
def Qm (a:List UInt8×Nat×Nat):Prop:=(a.2.1≠0/\a.1=[]/\a.2.1<=10/\a.2.2<=300)\/(a.2.1=0/\1<a.1.length/\a.1.length<=1000000000/\a.1[a.1.length - 1]?=some 10/\a.2.2=0)
theorem Bb {a:List UInt8×Nat×Nat}(h:Qm a)(w:World):Calls Tryz.prog 10 #[rP a] w λr w'=>r=.returned (.bool true)/\Below w.heap.size w w':=by
 obtain ⟨s,e,p⟩:=a;unfold rP;simp only;rcases h with ⟨h1,h2,h3,h4⟩|⟨h1,h2,h3,h4,h5⟩
 . simp only at h1 h2 h3 h4
   subst h2;have e1:((e:Int) != 0)=true:=by rw [gy];omega
   have e2:(e:Int)>0:=by omega
   have e3:(e:Int)<=10:=by omega
   have e4:(p:Int)>=0:=by omega
   have e5:(p:Int)<=300:=by omega
   go_enter Tryz.func10,Tryz.ntmps10;go_wp2_with fail
   all_goals
    go_ret;exact ⟨by first|rfl|simp_all,(ag _ _).alloc (af _) _⟩
 . simp only at h1 h2 h3 h4 h5
   subst h1 h5;have hs:∀h:s.length - 1<(⟨s.toArray⟩:ByteArray).size,(⟨s.toArray⟩:ByteArray)[s.length - 1]=10:=λh=>by
    have h6:s.length - 1<s.length:=by omega
    rw [ah h6] at h4;have h7:=aS h4;show s.toArray[s.length - 1]=10;simpa using h7
   go_enter Tryz.func10,Tryz.ntmps10;go_wp2_with fail
   all_goals
    go_ret;exact ⟨by first|rfl|(rename_i h9;exact absurd (by rw [hs];rfl) h9)|simp_all|trace_state,(ag _ _).alloc (af _) _⟩
end Go.Proofs.YteniahoehoncjaaGreatDoor
