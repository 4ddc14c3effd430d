import Derived.Sort.OwnSortedInts
import Derived.Test.YteniahoehoncjaaGreatDoorQBF
set_option maxHeartbeats 99999999
set_option maxRecDepth 100000
namespace Go.Proofs.YteniahoehoncjaaGreatDoor
open Go.RowKit
section
open Go.Maps
theorem Xu {cols:List cU}{s:ByteArray}(h:0<=yN cols s):(yN cols s).toNat<cols.length/\yN cols s=((yN cols s).toNat:Nat):=by
 refine ⟨?_,by omega⟩;unfold yN at h ⊢
 cases ha:J7 cols s with
 |none=>rw [ha] at h;simp at h
 |some i=>
   simp only [Int.toNat_natCast];unfold J7 at ha;exact (gL.mp ha).1
theorem Xv {n:Nat}:∀{l:List Nat},l.Nodup->(∀x∈l,x<n)->l.length<=n:=by
 induction n with
 |zero=>
   intro l _ h
   cases l with
   |nil=>simp
   |cons x r=>exact absurd (h x (by simp)) (by omega)
 |succ n ih=>
   intro l hd h;by_cases hn:n∈l
   . have h1:=List.length_erase_of_mem hn
     have h2:=ih (l:=l.erase n) (hd.erase n) (λx hx=>by
      have h3:=(hd.mem_erase_iff).mp hx;have:=h x h3.2;omega)
     omega
   . have h2:=ih hd (λx hx=>by
      have:=h x hx;have:x≠n:=λe=>hn (e ▸ hx);omega)
     omega
theorem Jv {cols:List cU}:∀{cs:List Nm} {l sh:List Nat},eJ cols cs l=.inr sh->l.Nodup->(∀x∈l,x<cols.length)->sh.length=l.length+cs.length/\sh.length<=cols.length/\∀x∈sh,x<cols.length
 |[],l,sh,h,hd,hl=>by
   unfold eJ at h
   cases h
   refine ⟨by simp,by simpa using Xv hd hl,λx hx=>hl x (by simpa using hx)⟩
 |n::r,l,sh,h,hd,hl=>by
   unfold eJ at h;split at h
   . cases h
   . rename_i hi
     split at h
     . cases h
     . rename_i hc
       have JI:(yN cols n.1).toNat∉l:=by simpa using hc
       have h1:=Jv h (by
        rw [List.nodup_append];refine ⟨hd,by simp,λa ha b hb=>?_⟩;simp at hb;subst hb;exact λe=>JI (e ▸ ha)) (λx hx=>by
        rw [dm,dy] at hx;rcases hx with hx|rfl
        . exact hl x hx
        . exact (Xu (by omega)).1)
       refine ⟨?_,h1.2.1,h1.2.2⟩;have h2:=h1.1;rw [au,iH] at h2;rw [aY];omega
theorem Xw (l:List Nat):(l.map (λn:Nat=>(n:Int))).mergeSort (λx y=>decide (x<=y))=(l.mergeSort (λa b=>decide (a<=b))).map (λn:Nat=>(n:Int)):=(List.map_mergeSort (λa _ b _=>by simp)).symm
theorem Ni (l:List Nat):(l.map (λn:Nat=>(n:Int))).map (Value.int .i64)=l.map kZ:=by rw [jH];rfl
theorem KU {w:World}{base:Nat}{v:Value}{cl:List Nat}(h:w.ownsRow base 3 1 v cl.length (cl.map kZ))(hl:cl.length<=100000)(i:Nat):Calls Tryz.prog 233 #[v,.int .i64 i] w λe w'=>e=.returned (.bool (cl.contains i))/\w'=w:=by
 obtain ⟨a,cap,rfl,hg,-⟩:=di h
 cases cl with
 |nil=>exact Tryz.slices_Contains_int_empty a cap i w
 |cons x r=>
   obtain ⟨g,rfl,-⟩:=hg (by simp);have hr:=bF.jt h;obtain ⟨vg,vo,AW,he,-,-,hx⟩:=bF.at hr (by simp)
   cases he
   refine (Tryz.slices_Contains_int g 0 (x::r).length cap ((x::r).map (λn:Nat=>(n:Int))) i w (by simp) (by omega) (λj hj=>?_)).mono ?_
   . have hj':j<(x::r).length:=by simpa using hj
     have h1:=hx j (kZ ((x::r)[j])) (by rw [a7,ah hj'];rfl);rw [h1,List.getD_eq_getElem?_getD,a7,ah hj'];rfl
   . rintro e w' ⟨rfl,rfl⟩
     refine ⟨?_,rfl⟩;congr 2;rw [aP (by simp)];rw [lQ,List.contains_iff_mem,List.contains_iff_mem,dv];constructor
     . rintro ⟨a,ha,e⟩;rw [<- Int.ofNat.inj e];exact ha
     . exact λha=>⟨i,ha,rfl⟩
theorem Xx {w:World}{base:Nat}{v:Value}{cl:List Nat}(h:w.ownsRow base 3 1 v cl.length (cl.map kZ))(h0:0<cl.length)(hl:cl.length<=100000):Calls Tryz.prog 234 #[v] w λe w'=>e=.returned (.tuple #[])/\w'.ownsRow base 3 1 v cl.length ((cl.mergeSort (λa b=>decide (a<=b))).map kZ)/\w.grownBy w' v.ownBlock:=by
 rcases h.2 with ⟨-,e⟩|⟨g,cap,cur,rfl,hb,V8,h1,h2,h3,h4⟩
 . omega
 have hlm:(cl.map (λn:Nat=>(n:Int))).length=cl.length:=by simp
 have hH:=holds_of_blockI (ss:=cl.map (λn:Nat=>(n:Int))) V8 (by rw [hlm,Ni];simpa using h4);have hc:=Tryz.slices_Sort_int g 0 cap (cl.map (λn:Nat=>(n:Int))) w hH (az V8) (by rw [hlm];omega);rw [hlm] at hc;refine hc.mono ?_;rintro e w' ⟨rfl,n,os,rfl⟩;rw [Xw];refine ⟨rfl,?_,grownBy_sortedI _⟩;have:=ownsRow_sortedI (n:=n) (os:=os) (ss:=cl.map (λn:Nat=>(n:Int))) (ts:=(cl.mergeSort (λa b=>decide (a<=b))).map (λn:Nat=>(n:Int))) (by simp) hb V8 (by rw [hlm];exact h1) h2 h3;rw [hlm,Ni] at this;exact this
theorem ow {w1:World}{r:Nat}{a b c d e f g:Value}{t:TypeId}(h:w1.heap[r]?=some (.cells #[a,b,c,d,e,f,g] t (0,0))) :
 w1.cell? ⟨r,0,none⟩=some a/\w1.cell? ⟨r,1,none⟩=some b/\w1.cell? ⟨r,2,none⟩=some c/\w1.cell? ⟨r,3,none⟩=some d/\w1.cell? ⟨r,4,none⟩=some e/\w1.cell? ⟨r,5,none⟩=some f/\w1.cell? ⟨r,6,none⟩=some g:=by
 simp [World.cell?,h]
def se (w w':World)(res:(Nat×Nat) ⊕ List Nat)(r:Ending):Prop:=Below w.heap.size w w'/\match res with
 |.inl f=>r=.returned (.tuple #[.slice none 0 0,.agg #[.int .i64 f.1,.int .i64 f.2]])
 |.inr sh=>∃sv,r=.returned (.tuple #[sv,.agg #[.int .i64 0,.int .i64 0]])/\w'.ownsRow w.heap.size 3 1 sv sh.length (sh.map kZ)
theorem se.bad {w w':World}{res:(Nat×Nat) ⊕ List Nat}{r:Ending}{f:Nat×Nat}(he:res=.inl f)(hb:Below w.heap.size w w')(hr:r=.returned (.tuple #[.slice none 0 0,.agg #[.int .i64 f.1,.int .i64 f.2]])):se w w' res r:=by
 subst he;exact ⟨hb,hr⟩
theorem Nj {w:World}{base rQ size n:Nat}{t:TypeId}{v:Value}{xs:List Value}(h:w.ownsRow base t size v n xs)(hb:rQ<=base):w.ownsRow rQ t size v n xs:=by
 rcases h with ⟨h1,h2|⟨g,cap,cur,hv,hg,r⟩⟩
 . exact ⟨h1,.inl h2⟩
 . exact ⟨h1,.inr ⟨g,cap,cur,hv,aw hb hg,r⟩⟩
theorem Nk {w:World}{u t:Nm}{cs:List Nm}{v:Value}{pl:Nat}{ev cv:Value}{te:TypeId}{ev0:Value}(hev:ev=.iface te ev0){cols:List cU}(hcs:cs≠[])(vQ:cs.length<=302)(hv:bF w 2 v cs.length (jF cs))(hc:gq w cv cols)(h5:cols.length<=5) :
 Calls Tryz.prog 231 #[.agg #[.string u.1,.int .i64 u.2,.string t.1,.int .i64 t.2,v,.int .i64 pl,ev],cv] w λr w'=>se w w' (eJ cols cs []) r:=by
 subst hev;obtain ⟨va,cJ,rfl⟩:=bF.slice hv;obtain ⟨ca,kV,rfl⟩:=bF.slice hc;obtain ⟨W,hW⟩:∃W,W=(w.alloc (.cells #[.string u.1,.int .i64 u.2,.string t.1,.int .i64 t.2,.slice va cs.length cJ,.int .i64 pl,.iface te ev0] 183)).alloc (.cells #[.int .i64 0,.int .i64 0] 72):=⟨_,rfl⟩;have lK:Below w.heap.size w W:=by rw [hW];exact ((ag _ _).alloc (af _) _).alloc (by simp) _
 have za:W.heap.size=w.heap.size+2:=by rw [hW];simp
 have fN:W.heap[w.heap.size]?=some (.cells #[.string u.1,.int .i64 u.2,.string t.1,.int .i64 t.2,.slice va cs.length cJ,.int .i64 pl,.iface te ev0] 183 (0,0))/\W.heap[w.heap.size+1]?=some (.cells #[.int .i64 0,.int .i64 0] 72 (0,0)):=by
  rw [hW];have e2:=ai (w.alloc (.cells #[.string u.1,.int .i64 u.2,.string t.1,.int .i64 t.2,.slice va cs.length cJ,.int .i64 pl,.iface te ev0] 183)) (.cells #[.int .i64 0,.int .i64 0] 72);rw [show (w.alloc (.cells #[.string u.1,.int .i64 u.2,.string t.1,.int .i64 t.2,.slice va cs.length cJ,.int .i64 pl,.iface te ev0] 183)).heap.size=w.heap.size+1 by simp] at e2;exact ⟨(dX _ _ (by simp)).trans (ai w _),e2⟩
 have HB:=hide (λwr (hb:Below W.heap.size W wr)=>(show Below w.heap.size w wr/\wr.heap[w.heap.size+1]?=some (.cells #[.int .i64 0,.int .i64 0] 72 (0,0))/\bF wr 2 (.slice va cs.length cJ) cs.length (jF cs)/\gq wr (.slice ca cols.length kV) cols from by
  have h1:=lK.trans (hb.mono (by omega));exact ⟨h1,(hb.block _ (by omega)).trans fN.2,bF.below hv h1 (af _),bF.below hc h1 (af _)⟩))
 have HW:=hide hW;have bL:=fN.1;obtain ⟨c0,c1,c2,c3,c4,c5,c6⟩:=ow bL;have Db:=az bL;have HD0:Hid (Below W.heap.size W W):=hide (ag _ _);have sU:=hide za;obtain ⟨i0,yv,jS,jD,jv⟩:=lE Tryz.Ae;clear hW lK fN bL za hv hc;go_enter Tryz.func231,Tryz.ntmps231;go_wp2_with fail;rw [<- ae HW];clear c0 c1 c2 c3 c4 c5 c6;go_loopw [6,13] (λv c wr=>∃(i:Nat) (cl:List Nat),i<=cs.length/\Hid (cl.length=i)/\c=.int .i64 i/\Hid (eJ cols cs []=eJ cols (cs.drop i) cl)/\Hid (wr.ownsRow W.heap.size 3 1 v cl.length (cl.map kZ))/\Hid (Below W.heap.size W wr)) (λ_ c _=>cs.length - (intOf c).toNat)
 case atStart=>exact ⟨0,[],aN _,hide rfl,rfl,hide rfl,hide ⟨rfl,.inl ⟨rfl,rfl⟩⟩,HD0⟩
 case round=>
  obtain ⟨i,cl,hi,LV,rfl,YX,HOW,qx⟩:=hrel;obtain ⟨nG,bO,Ha,Bo⟩:=ae HB wr (ae qx);by_cases cF:i<cs.length
  . have jI:(i:Int)<cs.length:=by omega
    obtain ⟨c,kM⟩:∃c,cs[i]?=some c:=⟨_,ah cF⟩;have ZQ:cs.drop i=c::cs.drop (i+1):=by rw [dA cF];congr 1;exact (ak.mp kM).2
    have Nl:Hid (eJ cols cs []=if yN cols c.1<0 then .inl (5,c.2) else if cl.contains (yN cols c.1).toNat then .inl (6,c.2) else eJ cols (cs.drop (i+1)) (cl++[(yN cols c.1).toNat])):=hide (by rw [ae YX,ZQ];rfl);obtain ⟨vg,vo,AW,he,-,hvg,hx⟩:=bF.at Ha (by omega)
    cases he
    have x0:wr.cell? ⟨vg,vo+i*2,none⟩=some (.string c.1):=hx (i*2) _ (dc vA 2 (λ_=>rfl) cs kM (j:=0) (by decide));have x1:wr.cell? ⟨vg,vo+i*2+1,none⟩=some (.int .i64 c.2):=hx (i*2+1) _ (dc vA 2 (λ_=>rfl) cs kM (j:=1) (by decide));obtain ⟨W1,qH⟩:∃W1,W1=wr.alloc (.cells #[.string c.1,.int .i64 c.2] 106):=⟨_,rfl⟩;have ph:Below wr.heap.size wr W1:=by rw [qH];exact (ag _ _).alloc (af _) _
    have nN:W1.heap[wr.heap.size]?=some (.cells #[.string c.1,.int .i64 c.2] 106 (0,0)):=by rw [qH];exact ai wr _
    have how:=ae HOW;obtain ⟨ka,iG,rfl,-,-⟩:=di how;have TU:=du how ph;have HIX:=hide (DR cols (.slice ca cols.length kV) c.1 W1 (bF.below Bo ph (af _)) (by omega));have Z9:=hide TU;have vH:=hide nN;have Ga:=hide ((ae qx).trans (ph.mono (ae qx).size));have xX:=hide qH;clear nG bO Ha Bo hx qH ph nN how TU kM ZQ;go_wp2_with fail;rw [<- ae xX];refine (ae HIX).mono ?_;rintro e w2 ⟨rfl,bO⟩;have nQ:=(bO.block _ (az (ae vH))).trans (ae vH);obtain ⟨k0,k1⟩:=bj nQ;have qR:=(ae Ga).trans (bO.mono (ae Ga).size);have Wo:=qR.size;have ug:=hide (du (ae Z9) bO);have ZO:=az nQ;obtain ⟨CW,xN,-,-⟩:=ae HB w2 qR;obtain ⟨f0,f1⟩:=bj xN;have z0:=lz xN 0;have z1:=lz xN 1;have CA:=hide xN;have r6:=hide CW;have Gb:=hide qR;clear bO nQ qR CW xN x0 x1;by_cases UY:yN cols c.1<0
    . have zA:Hid (eJ cols cs []=.inl (5,c.2)):=hide (by rw [ae Nl,aH UY])
      go_wp2_with fail;go_region
      all_goals
       (try go_wp2_with fail)
       obtain ⟨⟨d0,d1⟩,d2⟩:=eX (ae r6) (cq _) (ae CA) (.int .i64 5) (.int .i64 c.2);refine ay (v:=.tuple #[.slice none 0 0,.agg #[.int .i64 5,.int .i64 c.2]]) (by simp [results,Tryz.results231,go_sem,d0,d1];try rfl) rfl ?_;exact se.bad (ae zA) (aJ d2) rfl
    . obtain ⟨hj1,hj2⟩:=Xu (cols:=cols) (s:=c.1) (by omega)
      obtain ⟨j,hj⟩:∃j,j=(yN cols c.1).toNat:=⟨_,rfl⟩;rw [<- hj] at hj1 hj2;have HJ:Hid (j=(yN cols c.1).toNat):=hide hj;have HLC:=hide (show cl.length<=100000 from by rw [ae LV];omega);have HCN:=hide (KU (ae ug) (ae HLC) j);have HJ1:=hide hj1;rw [aA UY] at Nl;rw [hj2] at UY ⊢;rw [<- hj] at Nl;clear hj hj2 hj1;go_wp2_with fail;refine (ae HCN).mono ?_;rintro e w3 ⟨rfl,rfl⟩;by_cases YJ:cl.contains j=true
      . have zA:Hid (eJ cols cs []=.inl (6,c.2)):=hide (by rw [ae Nl,aH YJ])
        rw [YJ];go_wp2_with fail;go_region
        all_goals
         (try go_wp2_with fail)
         obtain ⟨⟨d0,d1⟩,d2⟩:=eX (ae r6) (cq _) (ae CA) (.int .i64 6) (.int .i64 c.2);refine ay (v:=.tuple #[.slice none 0 0,.agg #[.int .i64 6,.int .i64 c.2]]) (by simp [results,Tryz.results231,go_sem,d0,d1];try rfl) rfl ?_;exact se.bad (ae zA) (aJ d2) rfl
      . have Xy:Hid (eJ cols cs []=eJ cols (cs.drop (i+1)) (cl++[j])):=hide (by rw [ae Nl,aA YJ])
        simp only [Bool.not_eq_true] at YJ;rw [YJ];have Ez:=hide ((ae ug).alloc (.cells #[.int .i64 j] 3));have yU:=hide (World.news_of_block (w:=w3.alloc (.cells #[.int .i64 j] 3)) (B:=w3.heap.size) (ai w3 (.cells #[.int .i64 j] 3)));have Vo:Hid (cl.length+1<=maxLen):=hide (by rw [ae LV];unfold maxLen;omega);have Q9:Hid ((cl.length+1)*8<=140737488355328):=hide (by rw [ae LV];omega);have IJ:Hid (W.heap.size<=(w3.alloc (.cells #[.int .i64 j] 3)).heap.size):=hide (by simp;omega);go_wp2_with (at_builtin;refine oY _ rfl _ _ 36 rfl W.heap.size 3 i0 _ 1 8 Tryz.underlying36 yv jS jD jv rfl (by decide) (.slice ka cl.length iG) cl.length (cl.map kZ) rfl (ae Ez) ⟨w3.heap.size,0,none⟩ 1 1 [kZ j] rfl rfl (ae yU) (by simp [kZ,Value.oneCell']) (ae Vo) (ae Q9) (ae IJ) ?_);intro v' w4 ld ja _;have xD:Hid (w4.ownsRow W.heap.size 3 1 v' (cl++[j]).length ((cl++[j]).map kZ)):=hide (by rw [au,fB];exact ld);have px:Hid (Below W.heap.size W w4):=hide ((((ae Gb).alloc Wo _)).grown ja (ae IJ) (λk hk=>((ae Ez).lt k hk).1));have Xz:Hid ((cl++[j]).length=i+1):=hide (by rw [au,ae LV];rfl);clear ld ja;go_wp2_with fail
        first
        |exact ⟨⟨i+1,_,by omega,Xz,by go_num,Xy,xD,px⟩,by simp [intOf];omega⟩
        | (go_roundw
           case rel=>exact ⟨i+1,_,by omega,Xz,by go_num,Xy,xD,px⟩
           case measure=>simp [intOf];omega)
  . obtain rfl:i=cs.length:=by omega
    have zA:Hid (eJ cols cs []=.inr (cl.mergeSort (λa b=>decide (a<=b)))):=hide (by rw [ae YX,iO];rfl);have how:=ae HOW;obtain ⟨ka,iG,rfl,-,-⟩:=di how;have h0:0<cl.length:=by rw [ae LV];exact nM.mpr hcs
    have HSO:=hide (Xx how h0 (by rw [ae LV];omega));clear nG bO Ha Bo how h0;go_wp2_with fail;refine (ae HSO).mono ?_;rintro e w2 ⟨rfl,br,iu⟩;have qR:Below W.heap.size W w2:=(ae qx).grown iu (ae qx).size (λk hk=>((ae HOW).lt k hk).1);obtain ⟨CW,xN,-,-⟩:=ae HB w2 qR;obtain ⟨f0,f1⟩:=bj xN;have z0:=lz xN 0;have z1:=lz xN 1;have CA:=hide xN;have r6:=hide CW;have aiK:=hide br;clear CW xN br iu qR;go_wp2_with fail;obtain ⟨⟨d0,d1⟩,d2⟩:=eX (ae r6) (cq _) (ae CA) (.int .i64 0) (.int .i64 0);refine ay (v:=.tuple #[.slice ka cl.length iG,.agg #[.int .i64 0,.int .i64 0]]) (by simp [results,Tryz.results231,go_sem,d0,d1];try rfl) rfl ?_;rw [ae zA];refine ⟨d2,_,rfl,?_⟩;rw [List.length_mergeSort];have iq:∀k,(Value.slice ka cl.length iG).ownBlock=some k->k≠w.heap.size+1:=λk hk=>by
     have:=((ae aiK).lt k hk).1;rw [ae sU] at this;omega
    exact Nj (wI (ae aiK) (λk hk=>(aD _ _ _ _ (iq k hk)).trans (aD _ _ _ _ (iq k hk)))) (by rw [ae sU];omega)
theorem TV {o:rO}{w W7 w8 wc W9:World}{p mt mg:Nat}{X:Nat->Prop}{tl:List (Lit×fF)}{gl:List (Lit×ng)}(h:cx o w p mt mg X tl gl){u t:ByteArray}(hu:u.size<=8)(ht:t.size<=8){tc:fF}(TA:(tk t,tc)∈tl){Gw wv:Value}{sh:List Nat}{e:Ex}{lo base:Nat}
 (hl7:Below w.heap.size w W7) (B5:Below W7.heap.size W7 w8) (iu:w8.grownBy wc (some mg)) (hk7:w.heap.size+1<W7.heap.size) {x y:Value} (e9:W9=(wc.setCell ⟨w.heap.size+1,0,none⟩ x).setCell ⟨w.heap.size+1,1,none⟩ y) (aeO:W7.ownsRow base 3 1 Gw sh.length (sh.map kZ)) (qv:w.heap.size+1<base) (pb:W7.heap.size<=lo)
 (N6:ef w8 lo wv (nz tc.cols) (λrow=>gg tc.cols row e)) (hM:j7 wc 189 mg (oK (eZ ng.val gl) (gk u t) (.agg #[Gw,wv]))) (xW:(oB gl (gk u t)).length<8) (uA:WL tc.cols (sh,e)) {res:(Nat×Nat)×ou} (yb:res=((0,0),⟨eZ fF.told tl,oK (eZ ng.told gl) (gk u t) (sh,e)⟩)) :
 jR o w W9 p mt mg X tl res (.returned (.agg #[.int .i64 0,.int .i64 0])):=by
 have hmg:=h.yA.lt;have h7s:=B5.size;have RU:w.heap.size+1≠mg:=by omega
 have U4:W9.heap.size=wc.heap.size:=by rw [e9];simp [World.setCell]
 have P5:∀b,b≠w.heap.size+1->W9.heap[b]?=wc.heap[b]?:=λb hb=>by rw [e9];exact (aD _ _ _ _ hb).trans (aD _ _ _ _ hb)
 have hs7:=hl7.size;have hsg:=iu.size;have hK:aQ (λb=>b<w.heap.size/\b≠mg) w W9:=⟨by rw [e9];exact iu.os.trans (B5.os.trans hl7.os),by rw [e9];exact iu.tape.trans (B5.tape.trans hl7.tape),by rw [e9];exact iu.output.trans (B5.output.trans hl7.output),by omega,λb hb=>(P5 b (by have:=hb.1;omega)).trans ((iu.block b (by have:=hb.1;omega) (λe=>hb.2 (aS e))).trans ((B5.block b (by have:=hb.1;omega)).trans (hl7.block b hb.1)))⟩;have how:=wI (w2:=W9) aeO (λk hk=>by
  have h1:=aeO.lt k hk;exact (P5 k (by omega)).trans ((iu.block k (by omega) (λe=>by have:=aS e;omega)).trans (B5.block k h1.2)))
 have DN:j7 W9 189 mg (eZ ng.val (oK gl (gk u t) ⟨Gw,wv,sh,e,w8,lo⟩)):=by
  rw [<- wK];exact hM.kept (P5 mg (λe=>RU e.symm))
 have yT:Tp W9 X tc.cols ⟨Gw,wv,sh,e,w8,lo⟩:=
  { shr:=bF.jt how
    shn:=λa n' c hv hm=>by
     have hv':Gw=.slice (some a) n' c:=hv;have h1:=aeO.lt a.block (by rw [hv'];rfl);have h2:=h.nO _ hm;omega
    work:=N6
    kept:=(show jy lo w8.heap.size w8 W9 from ⟨by omega,λk h1 h2=>(P5 k (by omega)).trans (iu.block k h2 (λe=>by have:=aS e;omega))⟩)
    away:=λb (h1:lo<=b) _ hX=>by have:=h.nO _ hX;omega
    fit:=uA }
 rw [yb];exact h.granted hu ht TA (g:=⟨Gw,wv,sh,e,w8,lo⟩) DN hK xW yT rfl
end
end Go.Proofs.YteniahoehoncjaaGreatDoor
