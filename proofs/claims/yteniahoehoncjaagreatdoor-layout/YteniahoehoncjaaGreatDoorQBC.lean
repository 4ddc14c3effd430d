import Derived.Test.YteniahoehoncjaaGreatDoorQBB
import Derived.Test.YteniahoehoncjaaGreatDoorQAF
set_option maxHeartbeats 99999999
set_option maxRecDepth 100000
namespace Go.Proofs.YteniahoehoncjaaGreatDoor
open Go.RowKit
theorem aem (w:World)(l r:aL){q:Nat}{v:Value}{t:TypeId}(hq:w.heap[q]?=some (.cells #[v] t (0,0))):∃W,W=((w.alloc (lg l)).alloc (lg r)).alloc pI/\Below w.heap.size w W/\W.heap[w.heap.size+2]?=some (.cells #[.bool false,.int .i64 0,.string ⟨#[]⟩,.bool false] 247 (0,0))/\
 (W.cell? ⟨w.heap.size,0,none⟩=some (.bool l.null)/\W.cell? ⟨w.heap.size,1,none⟩=some (.int .i64 l.n)/\W.cell? ⟨w.heap.size,2,none⟩=some (.string l.s))/\(W.cell? ⟨w.heap.size+1,0,none⟩=some (.bool r.null)/\W.cell? ⟨w.heap.size+1,1,none⟩=some (.int .i64 r.n)/\W.cell? ⟨w.heap.size+1,2,none⟩=some (.string r.s))/\(W.cell? ⟨q,0,none⟩=some v/\q<W.heap.size)/\(w.heap.size<W.heap.size/\w.heap.size+1<W.heap.size):=by
 have h3:=Ai w (lg l) (lg r) pI;have h2:=sK w (lg l) (lg r);have hl:=(bA ((w.alloc (lg l)).alloc (lg r)) pI w.heap.size (by simp;omega)).trans h2.2.2;have hr:=(bA ((w.alloc (lg l)).alloc (lg r)) pI (w.heap.size+1) (by simp)).trans h2.2.1;exact ⟨_,rfl,h3.1,h3.2,kG hl,kG hr,⟨cell0 ((h3.1.block q (az hq)).trans hq) 0,aF (az hq) h3.1.size⟩,az hl,az hr⟩
theorem aen (o:Nat)(h5:5<=o)(Tj:o<=10)(l r:aL){q:Nat}{t:TypeId}{w:World}(hq:w.heap[q]?=some (.cells #[.int .i64 o] t (0,0))):Calls Tryz.prog 267 #[jx l,jx r,.pointer (some ⟨q,0,none⟩)] w λe w'=>e=.returned (yP (.inl (jr (yZ o (Sv l r)))))/\Below w.heap.size w w':=by
 obtain ⟨W,hW,hb,hz,⟨l0,l1,l2⟩,⟨r0,r1,r2⟩,⟨c0,hqW⟩,hs⟩:=aem w l r hq;have HC:=hide (λw1=>Ti l r w1);have HM:=hide (λw1=>SE o h5 Tj (Sv l r) w1);have HT:=hide (λw1=>tB (yZ o (Sv l r)) w1);have HR:=hide (λw1 (h:Below _ _ w1)=>SF hz hb h (by omega));have HW:=hide hW;have Rb:=hide (λw1 (h:Below W.heap.size W w1)=>(h.cell (p:=⟨q,0,none⟩) hqW).trans c0);obtain ⟨x,y,z,er,hL,hV⟩:=gE (.inl (jr (yZ o (Sv l r))));rw [hV] at HT ⊢;have BA:=az hq;clear hq h5 Tj hW hb hz hL hV;unfold jx at HC ⊢;go_enter Tryz.func267,Tryz.ntmps267;go_wp2_with fail;rw [<- ae HW];go_region_with (first
  | (go_at_call 269;refine (ae HC _).mono ?_;rintro e w1 ⟨rfl,bL⟩;have bO:=(aJ (ag W.heap.size W)).trans bL;have c1:=ae Rb w1 bO;have eI:=hide bO;clear bL bO)
  | (go_at_call 268;refine (ae HM _).mono ?_;rintro e w' ⟨rfl,rfl⟩)
  | (go_at_call 118;refine (ae HT _).mono ?_;rintro e w2 ⟨rfl,bL⟩;obtain ⟨⟨q0,q1,q2,q3⟩,⟨z0,z1,z2,z3⟩,hE⟩:=ae HR w2 ((ae eI).trans (bL.mono (ae eI).size));have HE:=hide hE;have HQ:=hide (And.intro q0 (And.intro q1 (And.intro q2 q3)));clear bL hE))
 all_goals
  (try go_wp2_with fail)
  (try simp only [Exit.inBlock,Exit.then])
  obtain ⟨q0,q1,q2,q3⟩:=ae HQ;refine ay (v:=.agg #[.bool x,.int .i64 y,.string z,.bool er]) (by simp [results,Tryz.results267,go_sem,q0,q1,q2,q3];try rfl) rfl ?_;exact ⟨rfl,ae HE _ _ _ _⟩
theorem aar (o:Nat)(h4:o<=4)(l r:aL){q:Nat}{t:TypeId}{w:World}(hq:w.heap[q]?=some (.cells #[.int .i64 o] t (0,0))):Calls Tryz.prog 270 #[jx l,jx r,.pointer (some ⟨q,0,none⟩)] w λe w'=>e=.returned (yP (LS (oJ o l.n r.n)))/\Below w.heap.size w w':=by
 have h3:=Ai w (lg l) (lg r) pI;have c0:=cell0 ((h3.1.block q (az hq)).trans hq) 0;simp only [List.getElem?_toArray,List.getElem?_cons_zero] at c0;have HC:=hide (adJ o h4 l.n r.n);obtain ⟨p,hp⟩:∃p,p=oJ o l.n r.n:=⟨_,rfl⟩;rw [<- hp] at HC ⊢;have HT:=hide (λw1=>LU p w1);have HR:=hide (λw1 (h:Below _ _ w1)=>SF h3.2 h3.1 h (by omega));obtain ⟨x,y,z,er,hL,hV⟩:=gE (LS p);rw [hV] at HT ⊢;have BA:=az hq;unfold yY at HC;clear hq h4 h3 hL hV hp;unfold jx;go_enter Tryz.func270,Tryz.ntmps270;go_wp2_with fail;refine (ae HC _).mono ?_;rintro e w1 ⟨rfl,bL⟩;have eI:=hide bL;clear bL;go_wp2_with fail;refine (ae HT _).mono ?_;rintro e w2 ⟨rfl,bL⟩;obtain ⟨⟨q0,q1,q2,q3⟩,⟨z0,z1,z2,z3⟩,hE⟩:=ae HR w2 ((ae eI).trans (bL.mono (ae eI).size));have HE:=hide hE;clear bL hE;go_wp2_with fail
 (try simp only [Exit.inBlock,Exit.then])
 refine ay (v:=.agg #[.bool x,.int .i64 y,.string z,.bool er]) (by simp [results,Tryz.results270,go_sem,q0,q1,q2,q3];try rfl) rfl ?_;exact ⟨rfl,ae HE _ _ _ _⟩
theorem ef.keep {a b:World}{lo:Nat}{fv:Value}{ok:List aL->Prop}{F:List aL->dQ}(h:ef a lo fv ok F)(hk:Below a.heap.size a b):ef b lo fv ok F:=by
 obtain ⟨n,iJ,hv,hE,hC⟩:=h;exact ⟨n,iJ,hv,hE,λc hc=>hC c (jy.back hk hc)⟩
theorem tf.keep {a b:World}{lo:Nat}{fv:Value}{ok:aL->Prop}{F:aL->dQ}(h:tf a lo fv ok F)(hk:Below a.heap.size a b):tf b lo fv ok F:=by
 obtain ⟨n,iJ,hv,hE,hC⟩:=h;exact ⟨n,iJ,hv,hE,λc hc=>hC c (jy.back hk hc)⟩
theorem uz.keep {a b:World}{lo:Nat}{fv:Value}{ok:aL->aL->Prop}{F:aL->aL->dQ}(h:uz a lo fv ok F)(hk:Below a.heap.size a b):uz b lo fv ok F:=by
 obtain ⟨n,iJ,hv,hE,hC⟩:=h;exact ⟨n,iJ,hv,hE,λc hc=>hC c (jy.back hk hc)⟩
abbrev MG:aL->Prop:=λ_=>True
abbrev MH:aL->aL->Prop:=λ_ _=>True
theorem Fz {w:World}{lo:Nat}{fv:Value}{W:aL->dQ}(hw:tf w lo fv MG W)(pb:lo<=w.heap.size) :
 Calls Tryz.prog 239 #[fv] w λr w'=>∃wv,r=.returned wv/\tf w' lo wv MG (unO W)/\Below w.heap.size w w':=by
 have HC:=hide hw;obtain ⟨n,iJ,rfl,-⟩:=hw;have hb:Below w.heap.size w (w.alloc (.cells #[.func (.func n) #[] iJ] 373)):=(ag _ _).alloc (af _) _;have HW:Hid (tf (w.alloc (.cells #[.func (.func n) #[] iJ] 373)) lo (.func (.func 247) #[] #[.pointer (some ⟨w.heap.size,0,none⟩)]) MG (unO W)):=hide ⟨_,_,rfl,Tryz.call247,λb hk c hc=>ahC (ae HC) (jy.back hb hk) (hk.block pb (ai w _)) c hc⟩;have HB:=hide hb;clear hb;go_enter Tryz.func239,Tryz.ntmps239;go_wp2_with fail;go_ret;exact ⟨_,rfl,ae HW,ae HB⟩
theorem AF {w:World}{lo:Nat}{fv wv:Value}{ok:List aL->Prop}{F:List aL->dQ}{W:aL->dQ}(hc:ef w lo fv ok F)(hw:tf w lo wv MG W)(pb:lo<=w.heap.size) :
 Calls Tryz.prog 237 #[fv,wv] w λr w'=>∃v,r=.returned v/\ef w' lo v ok (λrow=>vw W (F row))/\Below w.heap.size w w':=by
 have HC:=hide hc;have HV:=hide hw;obtain ⟨n,iJ,rfl,-⟩:=hc;obtain ⟨n2,iy,rfl,-⟩:=hw;have h2:=sK w (.cells #[.func (.func n) #[] iJ] 137) (.cells #[.func (.func n2) #[] iy] 373);have HW:Hid (ef ((w.alloc (.cells #[.func (.func n) #[] iJ] 137)).alloc (.cells #[.func (.func n2) #[] iy] 373)) lo (.func (.func 246) #[] #[.pointer (some ⟨w.heap.size,0,none⟩),.pointer (some ⟨w.heap.size+1,0,none⟩)]) ok (λrow=>vw W (F row))):=hide ⟨_,_,rfl,Tryz.call246,λb hk bv cs rv rows h1 Bv h3 h4 h5=>adk (ae HC) (ae HV) (λ_ _ _ _=>trivial) (jy.back h2.1 hk) (hk.block pb h2.2.2) (hk.block (by omega) h2.2.1) h1 Bv h3 h4 h5⟩;have HB:=hide h2.1;clear h2;go_enter Tryz.func237,Tryz.ntmps237;go_wp2_with fail;go_ret;exact ⟨_,rfl,ae HW,ae HB⟩
theorem Tl (w:World)(o o2 o3:Obj):Below w.heap.size w (((w.alloc o).alloc o2).alloc o3)/\(((w.alloc o).alloc o2).alloc o3).heap[w.heap.size]?=some o/\(((w.alloc o).alloc o2).alloc o3).heap[w.heap.size+1]?=some o2/\(((w.alloc o).alloc o2).alloc o3).heap[w.heap.size+2]?=some o3:=
 ⟨(Ai w o o2 o3).1,(bA _ _ _ (by simp;omega)).trans (sK w o o2).2.2,(bA _ _ _ (by simp)).trans (sK w o o2).2.1,(Ai w o o2 o3).2⟩
theorem KB {w:World}{lo:Nat}{fv gv wv:Value}{ok:List aL->Prop}{F G:List aL->dQ}{W:aL->aL->dQ}(hc:ef w lo fv ok F)(UT:ef w lo gv ok G)(hw:uz w lo wv MH W)(pb:lo<=w.heap.size) :
 Calls Tryz.prog 253 #[fv,gv,wv] w λr w'=>∃v,r=.returned v/\ef w' lo v ok (λrow=>tw W (F row) (G row))/\Below w.heap.size w w':=by
 have HC:=hide hc;have o8:=hide UT;have HV:=hide hw;obtain ⟨n,iJ,rfl,-⟩:=hc;obtain ⟨n1,wH,rfl,-⟩:=UT;obtain ⟨n2,iy,rfl,-⟩:=hw;have h2:=Tl w (.cells #[.func (.func n) #[] iJ] 137) (.cells #[.func (.func n1) #[] wH] 137) (.cells #[.func (.func n2) #[] iy] 383);have HW:Hid (ef (((w.alloc (.cells #[.func (.func n) #[] iJ] 137)).alloc (.cells #[.func (.func n1) #[] wH] 137)).alloc (.cells #[.func (.func n2) #[] iy] 383)) lo (.func (.func 266) #[] #[.pointer (some ⟨w.heap.size,0,none⟩),.pointer (some ⟨w.heap.size+1,0,none⟩),.pointer (some ⟨w.heap.size+2,0,none⟩)]) ok (λrow=>tw W (F row) (G row))):=hide ⟨_,_,rfl,Tryz.call266,λb hk bv cs rv rows h1 Bv h3 h4 h5=>adG (ae HC) (ae o8) (ae HV) (λ_ _ _ _ _ _ _ _=>trivial) (jy.back h2.1 hk) (hk.block pb h2.2.1) (hk.block (by omega) h2.2.2.1) (hk.block (by omega) h2.2.2.2) h1 Bv h3 h4 h5⟩;have HB:=hide h2.1;clear h2;go_enter Tryz.func253,Tryz.ntmps253;go_wp2_with fail;go_ret;exact ⟨_,rfl,ae HW,ae HB⟩
abbrev Sli:=Option Addr×Nat×Nat
structure SV where
 w:ByteArray
 i:Int
 t:ByteArray
 j:Int
 n:Sli
 e:Sli
 l:ByteArray
 li:Int
 r:ByteArray
 ri:Int
 eq:Int
 k:Sli
 d:Sli
 x:Int
def oS (a:SV):Array Value:=#[.string a.w,.int .i64 a.i,.string a.t,.int .i64 a.j,.slice a.n.1 a.n.2.1 a.n.2.2,.slice a.e.1 a.e.2.1 a.e.2.2,.string a.l,.int .i64 a.li,.string a.r,.int .i64 a.ri,.int .i64 a.eq,.slice a.k.1 a.k.2.1 a.k.2.2,.slice a.d.1 a.d.2.1 a.d.2.2,.int .i64 a.x]
theorem cG {w:World}{b:Nat}{cs:Array Value}{t:TypeId}(h:w.heap[b]?=some (.cells cs t (0,0)))(i:Nat):w.cell? ⟨b,i,none⟩=cs[i]?:=by simp [World.cell?,h]
theorem Qq (m:Mode):(m.name.2.take vJ).len<=m.len:=aw (take_len m.name.2 vJ) (cP m)
section
variable {o:World×Value} {w w':World} {p b:Nat} {c:eT} {v:Value} {m:Mode} {n:Nat} {L:List Item} {X:Item} {a:SV}
theorem St.mapped (S0:St o w p c v m n [.box b (oS a) 91,X])(hd:c.deep=0)(hm:n+m.len<=600)(h1:a.n=(none,0,0))(h2:a.e=(none,0,0)):Calls Tryz.prog 49 #[.pointer (some ⟨p,0,none⟩),.pointer (some ⟨b,0,none⟩)] w λr w'=>
 r=.returned (.tuple #[])/\∃(v':Value) (n':Nat) (a':SV),St o w' p c v' (cC eL m).2 n' [.box b (oS a') 91,X]/\n<=n'/\n'+(cC eL m).2.len<=n+m.len+(cC eL m).2.due:=by
 obtain ⟨i0,hi,jS,jD,jv⟩:=info_parts Tryz.Bc;obtain ⟨j0,hj,hy0,hy1,hy2⟩:=info_parts Tryz.RO;have SA:St o w p c v m n [.row (.slice none 0 0) 34 2 0,.row (.slice none 0 0) 3 1 0,.box b (oS { a with n:=(none,0,0),e:=(none,0,0) }) 91,X]:=by
  have e:{ a with n:=(none,0,0),e:=(none,0,0) }=a:=by cases a;cases h1;cases h2;rfl
  rw [e];exact (S0.nil 3 1).nil 34 2
 go_enter Tryz.func49,Tryz.ntmps49;go_wp2_with fail;go_loopw [4] (λx wr=>∃(t:Bool) (m':Mode) (v':Value) (n':Nat) (sa Qr:Option Addr) (sk Qs q:Nat),x=.bool t/\St o wr p c v' m' n' [.row (.slice sa q sk) 34 2 q,.row (.slice Qr q Qs) 3 1 q,.box b (oS { a with n:=(sa,q,sk),e:=(Qr,q,Qs) }) 91,X]/\q+n<=n'/\n'+m'.len<=n+m.len+m'.due/\Hid ((q=0/\t=true/\m'=m/\n'=n)\/(0<q/\t=m'.is kj/\∃f l,m'.len<=f/\fm eL f l m'=cC eL m))) (λ_ wr=>2000 - lenOf ((wr.cell? ⟨b,4,none⟩).getD undef))
 case atStart=>exact ⟨true,_,_,_,_,_,_,_,0,rfl,SA,by omega,by omega,hide (.inl ⟨rfl,rfl,rfl,rfl⟩)⟩
 case round=>
  obtain ⟨t,m',v',n',sa,Qr,sk,Qs,q,rfl,S,hqn,rH,HA⟩:=hrel;have c4:wr.cell? ⟨b,4,none⟩=some (.slice sa q sk):=cG S.drop.drop.box 4;have M0:lenOf ((wr.cell? ⟨b,4,none⟩).getD undef)=q:=by rw [c4];rfl
  have hdu:=mM m'
  cases t
  . have HF:=hide (show (cC eL m).2=m' by
     rcases ae HA with ⟨-,hb,-⟩|⟨-,hb,f,l,-,nT⟩
     . cases hb
     . rw [<- nT,lT hb.symm])
    go_wp2_with fail;go_end0;refine ⟨rfl,v',n',{ a with n:=(sa,q,sk),e:=(Qr,q,Qs) },?_⟩;rw [ae HF];exact ⟨S.drop.drop,by omega,rH⟩
  . rcases ae HA with ⟨hq,-,xV,NW⟩|⟨hq,hb,f,l,hfu,nT⟩
    case' inl=>
     have Co:¬(0:Int)<q:=by omega
     have Sx:=S;have hl:n'+m'.len<=n+m.len:=by rw [xV,NW];omega
     have HM:Hid ((eL m').2.len<=m'.len->∃f l,(eL m').2.len<=f/\fm eL f l (eL m').2=cC eL m):=hide λ_=>⟨_,_,af _,by rw [<- xV];rfl⟩;clear xV NW hq;have c4':wr.cell? ⟨b,4,none⟩=some (.slice sa q sk):=c4;go_wp2_with fail;generalize m'=mx at Sx hl HM
    case' inr=>
     have Co:(0:Int)<q:=by omega
     have ic:m'.is (ByteArray.mk #[44])=true:=hb.symm;obtain ⟨e3,e4,e5⟩:=S.rd.live ic;rw [mL e3] at rH;obtain ⟨f,rfl⟩:∃g,f=g+1:=⟨f - 1,by omega⟩;have o8:=hide (lS nT ic);clear hb nT;go_wp2_with fail;refine (S.rd.next e4).mono ?_;rintro r wa ⟨rfl,ha,fa⟩;have Sx:=S.call ha fa;have hl:n'+m'.next.len<=n+m.len:=by omega
     have HM:Hid ((eL m'.next).2.len<=m'.next.len->∃f l,(eL m'.next).2.len<=f/\fm eL f l (eL m'.next).2=cC eL m):=hide λhk=>⟨f,_,by omega,ae o8⟩;have c4':wa.cell? ⟨b,4,none⟩=some (.slice sa q sk):=cG Sx.drop.drop.box 4;clear o8 e5;go_wp2_with fail;generalize m'.next=mx at Sx hl HM
    all_goals
     clear Co c4';refine (Sx.rd.name).mono ?_;rintro r wb ⟨s2,j2,rfl,bL,fb⟩;have Sb:=(Sx.call bL fb).new #[.string s2,.int .i64 j2] 34;go_wp2_with fail;refine (Sb.rd.take _).mono ?_;rintro r wc ⟨_,rfl,NR,fc⟩;have OU:=Qq mx;have UT:Rd o wc p c v' (mx.name.2.take vJ) n':=NR;go_wp2_with fail;refine (K4 o wc p c v' (mx.name.2.take vJ) n' UT (by omega) (by omega)).mono ?_;rintro r wd ⟨vd,nd,k,rfl,sM,fd,bd⟩;have Sc:=(Sb.call UT fc).call sM fd;obtain ⟨u0,u1⟩:=jl Sc.box;have c5:wd.cell? ⟨b,4,none⟩=some (.slice sa q sk):=cG Sc.drop.drop.drop.box 4;have afe:=(dM.mp Sc.drop.drop.drop.box).1;have arx:=bd.bud;have avl:=bd.gr;have avm:=mM (j9 (lvl 8) (mx.name.2.take vJ)).2;have Sw:=((Sc.alloc (.cells #[.string s2,.int .i64 j2] 34)).drew).jG;obtain ⟨xs,own⟩:=Sw.row;have xD:=hide own;have yU:=hide (World.news_of_block (w:=(wd.alloc (.cells #[.string s2,.int .i64 j2] 34 (0,0))).drew) (B:=wd.heap.size) (ai wd (.cells #[.string s2,.int .i64 j2] 34 (0,0))));have sU:=hide (show (wd.alloc (.cells #[.string s2,.int .i64 j2] 34 (0,0))).drew.heap.size=wd.heap.size+1 by show (wd.heap.push _).size=_;rw [dq]);have ym:=hide Sw.rd.fr.keeps.size;have H1:=hide (show ∀u∈[Value.string s2,.int .i64 j2],u.oneCell'=true by intro u hu;simp at hu;rcases hu with rfl|rfl<;>rfl);clear own;go_wp2_with fail;go_region_law (refine step_append_lies _ rfl (.tmp 28) (.tmp 30) 35 rfl o.1.heap.size 34 i0 _ 2 24 Tryz.underlying35 hi jS jD jv rfl (by decide) _ _ _ (by simp [Act.eval]) (ae xD) ⟨wd.heap.size,0,none⟩ 1 1 [.string s2,.int .i64 j2] (by simp [Act.eval]) rfl (ae yU) (ae H1) (by decide) (by unfold maxLen;omega) (by omega) (ae ym) (wd.heap.size+1) (ae sU) ?_;intro g gcap we ke qF tu _;have Sd:=Sw.app ke qF (by rw [ae sU];rcases tu with h|h;exact .inl h;exact .inr (by omega));have k4:we.cell? ⟨b,4,none⟩=some (.slice sa q sk):=cG Sd.drop.drop.box 4;have kf:=bf Sd.drop.drop.box 4;clear ke qF tu)
     all_goals
      have Se:=Sd.jG.jG.put 4 (.slice (some ⟨g,0,none⟩) (q+1) gcap);have k5:(we.setCell ⟨b,4,none⟩ (.slice (some ⟨g,0,none⟩) (q+1) gcap)).cell? ⟨b,5,none⟩=some (.slice Qr q Qs):=cG Se.box 5;have Sf:=(Se.alloc (.cells #[.int .i64 k] 3)).jG.jG.jG.jG;obtain ⟨ys,Gk⟩:=Sf.row;have ug:=hide Gk;have Uj:=ai (we.setCell ⟨b,4,none⟩ (.slice (some ⟨g,0,none⟩) (q+1) gcap)) (.cells #[.int .i64 k] 3 (0,0));have hsd:(we.setCell ⟨b,4,none⟩ (.slice (some ⟨g,0,none⟩) (q+1) gcap)).heap.size=we.heap.size:=by simp [World.setCell]
      rw [hsd] at Uj;have HNK:=hide (World.news_of_block Uj);have Ky:=Sd.rd.fr.keeps.size;clear Gk Uj;go_wp2_with (at_builtin;refine cA _ rfl _ _ 36 rfl o.1.heap.size 3 j0 _ 1 8 Tryz.underlying36 hj hy0 hy1 hy2 rfl (by decide) _ _ _ rfl (ae ug) ⟨we.heap.size,0,none⟩ 1 1 [.int .i64 k] rfl rfl (ae HNK) (λu hu=>by simp at hu;subst hu;rfl) (by decide) (by unfold maxLen;omega) (by omega) (by simp [World.setCell] at Ky ⊢;omega) ?_);intro g2 uy wf br bE bW;have Sg:=Sf.app br bE (by simpa [World.setCell] using bW);have q5:wf.cell? ⟨b,5,none⟩=some (.slice Qr q Qs):=cG Sg.jG.box 5;have kf5:=bf Sg.jG.box 5;have Sh:=Sg.jG.put 5 (.slice (some ⟨g2,0,none⟩) (q+1) uy);have Uk:lenOf (((wf.setCell ⟨b,5,none⟩ (.slice (some ⟨g2,0,none⟩) (q+1) uy)).cell? ⟨b,4,none⟩).getD undef)=q+1:=by rw [cG Sh.box 4];rfl
      clear br bE bW k5 k4 kf;go_wp2_with (go_at_call 30;refine (Sh.rd.is _).mono ?_;rintro r' w' ⟨rfl,rfl⟩);go_roundw
      case rel=>
       obtain ⟨f',l',UC,zS⟩:=ae HM (aw bd.len OU);exact ⟨_,_,_,nd,_,_,_,_,q+1,rfl,Sh.jG.jG.drop,by omega,by omega,hide (.inr ⟨by omega,rfl,f',l',UC,zS⟩)⟩
      case measure=>rw [Uk,M0];omega
end
theorem Tryz.Yc:(Tryz.prog.info? 4).map (λi=>(i.zero,i.size,i.bytes))=some (some (.bool false),1,1):=by kernel_rfl
theorem CY (m:Mode):(dC m).2.len<=m.len:=by
 unfold dC;show (if m.name.2.is QV then m.name.2.next else m.name.2).len<=m.len;split
 . exact aw bG (cP m)
 . exact cP m
section
variable {o:World×Value} {w w':World} {p b:Nat} {c:eT} {v:Value} {m:Mode} {n:Nat} {L:List Item} {X:Item} {a:SV}
theorem St.ordered (S0:St o w p c v m n [.box b (oS a) 91,X])(hm:m.len<=600)(h1:a.n=(none,0,0))(h2:a.d=(none,0,0)):Calls Tryz.prog 51 #[.pointer (some ⟨p,0,none⟩),.pointer (some ⟨b,0,none⟩)] w λr w'=>
 r=.returned (.tuple #[])/\∃a':SV,St o w' p c v (cC dC m).2 n [.box b (oS a') 91,X]:=by
 obtain ⟨i0,hi,jS,jD,jv⟩:=info_parts Tryz.Bc;obtain ⟨j0,hj,hy0,hy1,hy2⟩:=info_parts Tryz.Yc;have SA:St o w p c v m n [.row (.slice none 0 0) 34 2 0,.row (.slice none 0 0) 4 1 0,.box b (oS { a with n:=(none,0,0),d:=(none,0,0) }) 91,X]:=by
  have e:{ a with n:=(none,0,0),d:=(none,0,0) }=a:=by cases a;cases h1;cases h2;rfl
  rw [e];exact (S0.nil 4 1).nil 34 2
 go_enter Tryz.func51,Tryz.ntmps51;go_wp2_with fail;go_loopw [4] (λx wr=>∃(t:Bool) (m':Mode) (sa Qr:Option Addr) (sk Qs q:Nat),x=.bool t/\St o wr p c v m' n [.row (.slice sa q sk) 34 2 q,.row (.slice Qr q Qs) 4 1 q,.box b (oS { a with n:=(sa,q,sk),d:=(Qr,q,Qs) }) 91,X]/\q+m'.len<=m.len+1/\Hid ((q=0/\t=true/\m'=m)\/(0<q/\t=m'.is kj/\∃f l,m'.len<=f/\fm dC f l m'=cC dC m))) (λ_ wr=>2000 - lenOf ((wr.cell? ⟨b,4,none⟩).getD undef))
 case atStart=>exact ⟨true,_,_,_,_,_,0,rfl,SA,by omega,hide (.inl ⟨rfl,rfl,rfl⟩)⟩
 case round=>
  obtain ⟨t,m',sa,Qr,sk,Qs,q,rfl,S,yX,HA⟩:=hrel;have c4:wr.cell? ⟨b,4,none⟩=some (.slice sa q sk):=cG S.drop.drop.box 4;have M0:lenOf ((wr.cell? ⟨b,4,none⟩).getD undef)=q:=by rw [c4];rfl
  cases t
  . have HF:=hide (show (cC dC m).2=m' by
     rcases ae HA with ⟨-,hb,-⟩|⟨-,hb,f,l,-,nT⟩
     . cases hb
     . rw [<- nT,lT hb.symm])
    go_wp2_with fail;go_end0;refine ⟨rfl,{ a with n:=(sa,q,sk),d:=(Qr,q,Qs) },?_⟩;rw [ae HF];exact S.drop.drop
  . rcases ae HA with ⟨hq,-,xV⟩|⟨hq,hb,f,l,hfu,nT⟩
    case' inl=>
     have Co:¬(0:Int)<q:=by omega
     have Sx:=S;have hl:q+m'.len<=m.len:=by rw [xV,hq];omega
     have HM:Hid (∃f l,(dC m').2.len<=f/\fm dC f l (dC m').2=cC dC m):=hide ⟨_,_,af _,by rw [<- xV];rfl⟩;clear xV hq;have c4':wr.cell? ⟨b,4,none⟩=some (.slice sa q sk):=c4;go_wp2_with fail;generalize m'=mx at Sx hl HM
    case' inr=>
     have Co:(0:Int)<q:=by omega
     have ic:m'.is (ByteArray.mk #[44])=true:=hb.symm;obtain ⟨e3,e4,e5⟩:=S.rd.live ic;obtain ⟨f,rfl⟩:∃g,f=g+1:=⟨f - 1,by omega⟩;have o8:=hide (lS nT ic);clear hb nT;go_wp2_with fail;refine (S.rd.next e4).mono ?_;rintro r wa ⟨rfl,ha,fa⟩;have Sx:=S.call ha fa;have hl:q+m'.next.len<=m.len:=by omega
     have hol:=CY m'.next;have HM:Hid (∃f l,(dC m'.next).2.len<=f/\fm dC f l (dC m'.next).2=cC dC m):=hide ⟨f,_,by omega,ae o8⟩;have c4':wa.cell? ⟨b,4,none⟩=some (.slice sa q sk):=cG Sx.drop.drop.box 4;clear o8 e5 hol;go_wp2_with fail;generalize m'.next=mx at Sx hl HM
    all_goals
     clear Co c4';refine (Sx.rd.name).mono ?_;rintro r wb ⟨s2,j2,rfl,bL,fb⟩;have Sb:=(Sx.call bL fb).new #[.string s2,.int .i64 j2] 34;have Ip:=cP mx;obtain ⟨wd,Ct⟩:∃wd,wd=wb.alloc (.cells #[.string s2,.int .i64 j2] 34 (0,0)):=⟨_,rfl⟩;rw [<- Ct] at Sb;obtain ⟨u0,u1⟩:=jl Sb.box;have c5:wd.cell? ⟨b,4,none⟩=some (.slice sa q sk):=cG Sb.drop.drop.drop.box 4;have afe:=(dM.mp Sb.drop.drop.drop.box).1;have Sw:=((Sb.alloc (.cells #[.string s2,.int .i64 j2] 34)).drew).jG;obtain ⟨xs,own⟩:=Sw.row;have xD:=hide own;have yU:=hide (World.news_of_block (w:=(wd.alloc (.cells #[.string s2,.int .i64 j2] 34 (0,0))).drew) (B:=wd.heap.size) (ai wd (.cells #[.string s2,.int .i64 j2] 34 (0,0))));have sU:=hide (show (wd.alloc (.cells #[.string s2,.int .i64 j2] 34 (0,0))).drew.heap.size=wd.heap.size+1 by show (wd.heap.push _).size=_;rw [dq]);have ym:=hide Sw.rd.fr.keeps.size;have H1:=hide (show ∀u∈[Value.string s2,.int .i64 j2],u.oneCell'=true by intro u hu;simp at hu;rcases hu with rfl|rfl<;>rfl);have Ul:=hide Ct;clear own Ct;go_wp2_with fail;rw [<- ae Ul];go_region_law (refine step_append_lies _ rfl (.tmp 24) (.tmp 26) 35 rfl o.1.heap.size 34 i0 _ 2 24 Tryz.underlying35 hi jS jD jv rfl (by decide) _ _ _ (by simp [Act.eval]) (ae xD) ⟨wd.heap.size,0,none⟩ 1 1 [.string s2,.int .i64 j2] (by simp [Act.eval]) rfl (ae yU) (ae H1) (by decide) (by unfold maxLen;omega) (by omega) (ae ym) (wd.heap.size+1) (ae sU) ?_;intro g gcap we ke qF tu _;have Sd:=Sw.app ke qF (by rw [ae sU];rcases tu with h|h;exact .inl h;exact .inr (by omega));have k4:we.cell? ⟨b,4,none⟩=some (.slice sa q sk):=cG Sd.drop.drop.box 4;have kf:=bf Sd.drop.drop.box 4;clear ke qF tu)
     all_goals
      have Se:=Sd.jG.jG.put 4 (.slice (some ⟨g,0,none⟩) (q+1) gcap);generalize we.setCell ⟨b,4,none⟩ (.slice (some ⟨g,0,none⟩) (q+1) gcap)=wg at Se ⊢;clear k4 kf Sd
      cases idn:mx.name.2.is (ByteArray.mk #[100,111,119,110])
      . have Sz:=Se
        have k5:wg.cell? ⟨b,12,none⟩=some (.slice Qr q Qs):=cG Sz.box 12;have HS:=hide (show (dC mx).2=mx.name.2 from aA (by show ¬mx.name.2.is (ByteArray.mk #[100,111,119,110])=true;rw [idn];decide));have Sf:=(Sz.alloc (.cells #[.bool false] 4)).jG.jG.jG.jG;obtain ⟨ys,Gk⟩:=Sf.row;have ug:=hide Gk;have Uj:=ai wg (.cells #[.bool false] 4 (0,0));have HNK:=hide (World.news_of_block Uj);have Ky:=Sz.rd.fr.keeps.size;clear Gk Uj;go_wp2_with (first|(go_at_call 30;refine (Sz.rd.is _).mono ?_;rintro r' w' ⟨rfl,rfl⟩)|(at_builtin;refine cA _ rfl _ _ 89 rfl o.1.heap.size 4 j0 _ 1 1 Tryz.underlying89 hj hy0 hy1 hy2 rfl (by decide) _ _ _ rfl (ae ug) ⟨wg.heap.size,0,none⟩ 1 1 [.bool false] rfl rfl (ae HNK) (λu hu=>by simp at hu;subst hu;rfl) (by decide) (by unfold maxLen;omega) (by omega) (by simp at Ky ⊢;omega) ?_));intro g2 uy wf br bE bW;have Sg:=Sf.app br bE (by simpa using bW);have q5:wf.cell? ⟨b,12,none⟩=some (.slice Qr q Qs):=cG Sg.jG.box 12;have kf5:=bf Sg.jG.box 12;have Sh:=Sg.jG.put 12 (.slice (some ⟨g2,0,none⟩) (q+1) uy);have Uk:lenOf (((wf.setCell ⟨b,12,none⟩ (.slice (some ⟨g2,0,none⟩) (q+1) uy)).cell? ⟨b,4,none⟩).getD undef)=q+1:=by rw [cG Sh.box 4];rfl
        clear br bE bW k5;go_wp2_with (go_at_call 30;refine (Sh.rd.is _).mono ?_;rintro r' w' ⟨rfl,rfl⟩);go_roundw
        case rel=>
         obtain ⟨f',l',UC,zS⟩:=ae HM;rw [ae HS] at UC zS;exact ⟨_,_,_,_,_,_,q+1,rfl,Sh.jG.jG.drop,by omega,hide (.inr ⟨by omega,rfl,f',l',UC,zS⟩)⟩
        case measure=>rw [Uk,M0];omega
      . go_wp2_with (go_at_call 30;refine (Se.rd.is _).mono ?_;rintro r' w' ⟨rfl,rfl⟩)
        refine (Se.rd.next (Se.rd.live idn).2.1).mono ?_;rintro r wh ⟨rfl,hh1,fh⟩;have Sz:=Se.call hh1 fh;have hnx:=bG (m:=mx.name.2);have k5:wh.cell? ⟨b,12,none⟩=some (.slice Qr q Qs):=cG Sz.box 12;have HS:=hide (show (dC mx).2=mx.name.2.next from aH idn);have Sf:=(Sz.alloc (.cells #[.bool true] 4)).jG.jG.jG.jG;obtain ⟨ys,Gk⟩:=Sf.row;have ug:=hide Gk;have Uj:=ai wh (.cells #[.bool true] 4 (0,0));have HNK:=hide (World.news_of_block Uj);have Ky:=Sz.rd.fr.keeps.size;clear Gk Uj;go_wp2_with (first|(go_at_call 30;refine (Sz.rd.is _).mono ?_;rintro r' w' ⟨rfl,rfl⟩)|(at_builtin;refine cA _ rfl _ _ 89 rfl o.1.heap.size 4 j0 _ 1 1 Tryz.underlying89 hj hy0 hy1 hy2 rfl (by decide) _ _ _ rfl (ae ug) ⟨wh.heap.size,0,none⟩ 1 1 [.bool true] rfl rfl (ae HNK) (λu hu=>by simp at hu;subst hu;rfl) (by decide) (by unfold maxLen;omega) (by omega) (by simp at Ky ⊢;omega) ?_));intro g2 uy wf br bE bW;have Sg:=Sf.app br bE (by simpa using bW);have q5:wf.cell? ⟨b,12,none⟩=some (.slice Qr q Qs):=cG Sg.jG.box 12;have kf5:=bf Sg.jG.box 12;have Sh:=Sg.jG.put 12 (.slice (some ⟨g2,0,none⟩) (q+1) uy);have Uk:lenOf (((wf.setCell ⟨b,12,none⟩ (.slice (some ⟨g2,0,none⟩) (q+1) uy)).cell? ⟨b,4,none⟩).getD undef)=q+1:=by rw [cG Sh.box 4];rfl
        clear br bE bW k5;go_wp2_with (go_at_call 30;refine (Sh.rd.is _).mono ?_;rintro r' w' ⟨rfl,rfl⟩);go_roundw
        case rel=>
         obtain ⟨f',l',UC,zS⟩:=ae HM;rw [ae HS] at UC zS;exact ⟨_,_,_,_,_,_,q+1,rfl,Sh.jG.jG.drop,by omega,hide (.inr ⟨by omega,rfl,f',l',UC,zS⟩)⟩
        case measure=>rw [Uk,M0];omega
end
theorem Tryz.aa7:(Tryz.prog.info? 120).map (λi=>(i.zero,i.size,i.bytes))=some (some (.agg #[.int .i64 0,.int .i64 0,.bool false,.int .i64 0,.string ByteArray.empty]),5,48):=by kernel_rfl
theorem xR (m:Mode):(gw m).2.len<=m.len:=by
 have h1:m.next.len<=m.len:=bG;have h2:m.next.next.len<=m.next.len:=bG;have h3:=(lj (cj m 2)).1;have h4:=(lj (cj m.next 2)).1;unfold gw
 repeat' split
 all_goals (simp only;omega)
theorem Um (w:World)(a b c d e:Addr)(u1 u2 u3 u4 u5:Value):(((((w.setCell a u1).setCell b u2).setCell c u3).setCell d u4).setCell e u5).heap.size=w.heap.size:=by simp [World.setCell]
section
variable {o:World×Value} {w w':World} {p:Nat} {c:eT} {v:Value} {m:Mode} {n:Nat}
theorem Rd.row (h:Rd o w p c v m n)(hm:m.len<=600):Calls Tryz.prog 33 #[.pointer (some ⟨p,0,none⟩)] w λr w'=>
 ∃(i:Nat) (a:Option Addr) (q k:Nat),r=.returned (.agg #[.int .i64 i,.slice a q k])/\Rd o w' p c v (fW m).2 n/\Fq p v v w w':=by
 obtain ⟨i0,hi,jS,jD,jv⟩:=info_parts Tryz.aa7;have cF:=h.lt;have S0:=h.start.new #[.int .i64 0,.slice none 0 0] 85;go_enter Tryz.func33,Tryz.ntmps33;go_wp2_with fail;refine (S0.rd.take _).mono ?_;rintro r w1 ⟨i,rfl,h1,f1⟩;have S1:=(S0.call h1 f1).new #[.int .i64 i,.slice none 0 0] 85;have SK:=take_len m cI;go_wp2_with fail;refine (S1.rd.value).mono ?_;rintro r w2 ⟨a1,a2,a3,a4,a5,rfl,h2,f2⟩;have G7:=xR (m.take cI);have S2:=(S1.call h2 f2).new #[.int .i64 a1,.int .i64 a2,.bool a3,.int .i64 a4,.string a5] 120;obtain ⟨d0,d1⟩:=jl (S1.call h2 f2).box;have S3:=(S2.nil 120 5).alloc (.cells #[.int .i64 a1,.int .i64 a2,.bool a3,.int .i64 a4,.string a5] 120);obtain ⟨xs,own⟩:=S3.row;have HO:=hide own;have Gv:=hide (World.news_of_block (ai (w2.alloc (.cells #[.int .i64 a1,.int .i64 a2,.bool a3,.int .i64 a4,.string a5] 120)) (.cells #[.int .i64 a1,.int .i64 a2,.bool a3,.int .i64 a4,.string a5] 120 (0,0))));rw [show (w2.alloc (.cells #[.int .i64 a1,.int .i64 a2,.bool a3,.int .i64 a4,.string a5] 120)).heap.size=w2.heap.size+1 from by simp] at Gv;have hk:=S2.rd.fr.keeps.size;have fN:=(S1.call h2 f2).box;have Tf:=(dM.mp fN).1;clear own fN;go_wp2_with (at_builtin;refine cA _ rfl _ _ 83 rfl w.heap.size 120 i0 _ 5 48 Tryz.underlying83 hi jS jD jv rfl (by decide) _ _ _ rfl (ae HO) ⟨w2.heap.size+1,0,none⟩ 1 1 [.int .i64 a1,.int .i64 a2,.bool a3,.int .i64 a4,.string a5] rfl rfl (ae Gv) ?c2 (by decide) ?c3 ?c4 ?c5 ?_)
 case c2=>intro u hu;simp at hu;rcases hu with rfl|rfl|rfl|rfl|rfl<;>rfl
 case c3=>unfold maxLen;simp
 case c4=>simp
 case c5=>simp at hk ⊢;omega
 intro g cap w5 br bE bW;have S5:=S3.app br bE (by simpa using bW);obtain ⟨k0,k1⟩:=jl S5.jG.jG.box;have k2:=bf S5.jG.jG.box 1;have S6:=hide λu=>S5.jG.jG.put 1 u;clear br bE bW d0 d1;go_wp2_with fail;clear k0 k1 k2;go_loopw [] (λwr=>∃(m':Mode) (s b1 b2 c1 c2 c3 c4 c5:Value) (l:List qD) (f q:Nat),St (w,v) wr p c v m' n [.box w1.heap.size #[.int .i64 i,s] 85,.box w.heap.size #[b1,b2] 85,.row s 120 5 q,.box w2.heap.size #[c1,c2,c3,c4,c5] 120]/\m'.len<=f/\q+m'.len<=m.len+1/\Hid (fm gw f l m'=cC gw (m.take cI))) (λwr=>2000 - lenOf ((wr.cell? ⟨w1.heap.size,1,none⟩).getD undef))
 case atStart=>exact ⟨(gw (m.take cI)).2,_,_,_,_,_,_,_,_,[(gw (m.take cI)).1],(gw (m.take cI)).2.len,0+1,ae S6 _,af _,by omega,hide rfl⟩
 case round=>
  obtain ⟨m',s,b1,b2,c1,c2,c3,c4,c5,l,f,q,S,hfu,yX,HC⟩:=hrel;obtain ⟨va,vc,rfl⟩:=S.jG.jG.slice;have M0:lenOf ((wr.cell? ⟨w1.heap.size,1,none⟩).getD undef)=q:=by rw [(jl S.box).2];rfl
  cases ic:m'.is (ByteArray.mk #[44])
  . have HF:=hide ((lT (show m'.is kj=false from ic)).symm.trans (ae HC))
    go_wp2_with (go_at_call 30;refine (S.rd.is _).mono ?_;rintro r' w' ⟨rfl,rfl⟩);refine (S.rd.take _).mono ?_;rintro r w3 ⟨_,rfl,h3,f3⟩;have S3:=S.call h3 f3;obtain ⟨u0,u1⟩:=jl S3.box;obtain ⟨y0,y1⟩:=jl S3.drop.box;have z0:=bf S3.drop.box 0;have z1:=bf S3.drop.box 1;go_wp2_with fail
    (try simp only [Exit.inBlock,Exit.then])
    refine ay (v:=_) (by simp [results,Tryz.results33,go_sem,y0,y1];rfl) rfl ?_;refine ⟨i,va,q,vc,rfl,?_⟩;rw [show (fW m).2=m'.take eG by show (cC gw (m.take cI)).2.take eG=_;rw [<- ae HF]];exact ((S3.jG.put 0 _).put 1 _).fin h
  . obtain ⟨e3,e4,e5⟩:=S.rd.live ic
    obtain ⟨f,rfl⟩:∃g,f=g+1:=⟨f - 1,by omega⟩;have o8:=hide (lS (ae HC) (show m'.is kj=true from ic));go_wp2_with (go_at_call 30;refine (S.rd.is _).mono ?_;rintro r' w' ⟨rfl,rfl⟩);refine (S.rd.next e4).mono ?_;rintro r w3 ⟨rfl,h3,f3⟩;go_wp2_with fail;refine (h3.value).mono ?_;rintro r w4 ⟨x1,x2,x3,x4,x5,rfl,h4,f4⟩;have S4:=(S.call h3 f3).call h4 f4;obtain ⟨u0,u1⟩:=jl S4.box;obtain ⟨y0,y1,y2,y3,y4⟩:=kR S4.jG.jG.jG.box;have zz:=bf S4.jG.jG.jG.box;have z0:=zz 0;have z1:=zz 1;have z2:=zz 2;have z3:=zz 3;have z4:=zz 4;have ao0:=xR m'.next;have S7:=(((((S4.jG.jG.jG.put 0 (.int .i64 x1)).put 1 (.int .i64 x2)).put 2 (.bool x3)).put 3 (.int .i64 x4)).put 4 (.string x5)).alloc (.cells #[.int .i64 x1,.int .i64 x2,.bool x3,.int .i64 x4,.string x5] 120);obtain ⟨xs,own⟩:=S7.jG.jG.jG.row;have ug:=hide own;have ajG:=hide (World.news_of_block (ai (((((w4.setCell ⟨w2.heap.size,0,none⟩ (.int .i64 x1)).setCell ⟨w2.heap.size,1,none⟩ (.int .i64 x2)).setCell ⟨w2.heap.size,2,none⟩ (.bool x3)).setCell ⟨w2.heap.size,3,none⟩ (.int .i64 x4)).setCell ⟨w2.heap.size,4,none⟩ (.string x5)) (.cells #[.int .i64 x1,.int .i64 x2,.bool x3,.int .i64 x4,.string x5] 120 (0,0))));rw [Um] at ajG;have Jt:=S4.rd.fr.keeps.size;have Xo:=(dk.mp S4.ap).1 _ (.tail _ (.tail _ (.head _))) _ rfl;have QZ:w1.heap.size≠w2.heap.size:=λe=>Xo (aU some e.symm);clear own zz Xo;go_wp2_with (at_builtin;refine cA _ rfl _ _ 83 rfl w.heap.size 120 i0 _ 5 48 Tryz.underlying83 hi jS jD jv rfl (by decide) _ _ _ rfl (ae ug) ⟨w4.heap.size,0,none⟩ 1 1 [.int .i64 x1,.int .i64 x2,.bool x3,.int .i64 x4,.string x5] rfl rfl (ae ajG) ?c2 (by decide) ?c3 ?c4 ?c5 ?_)
    case c2=>intro u hu;simp at hu;rcases hu with rfl|rfl|rfl|rfl|rfl<;>rfl
    case c3=>unfold maxLen;omega
    case c4=>omega
    case c5=>simp [World.setCell] at Jt ⊢;omega
    intro g2 uy w6 br bE bW;have S8:=S7.jG.jG.jG.app br bE (by simpa [World.setCell] using bW);obtain ⟨k0,k1⟩:=jl S8.jG.jG.box;have k2:=bf S8.jG.jG.box 1;have S9:=hide (S8.jG.jG.put 1 (.slice (some ⟨g2,0,none⟩) (q+1) uy));have ln9:lenOf (((w6.setCell ⟨w1.heap.size,1,none⟩ (.slice (some ⟨g2,0,none⟩) (q+1) uy)).cell? ⟨w1.heap.size,1,none⟩).getD undef)=q+1:=by rw [(jl (ae S9).box).2];rfl
    clear br bE bW;go_wp2_with fail;go_roundw
    case rel=>exact ⟨_,_,_,_,_,_,_,_,_,_,f,_,ae S9,by omega,by omega,o8⟩
    case measure=>rw [ln9,M0];omega
end
structure Be (c:eT):Prop where
 names:c.names=.slice none 0 0
 kinds:c.kinds=.slice none 0 0
 rows:c.rows=.slice none 0 0
 dU:c.dU=.slice none 0 0
 deep:c.deep=0
def Slc (u:Value):Prop:=∃a q k,u=.slice a q k
structure Shaped (c:eT):Prop where
 names:Slc c.names
 kinds:Slc c.kinds
 rows:Slc c.rows
 dU:Slc c.dU
theorem Be.shaped {c:eT}(h:Be c):Shaped c:=⟨⟨_,_,_,h.names⟩,⟨_,_,_,h.kinds⟩,⟨_,_,_,h.rows⟩,⟨_,_,_,h.dU⟩⟩
def zE (o:World×Value)(w:World)(p:Nat)(v:Value)(m:Mode)(t:ByteArray)(r:Ending)(w':World):Prop:=
 r=.returned (.tuple #[])/\∃(c':eT) (v':Value) (n':Nat),(Rd o w' p c' v' (aV m).2 n'/\Fq p v v' w w')/\c'.word=.string t/\Shaped c'
theorem Qt (m:Mode):(gu m).2.len<=m.len:=by
 have more:∀(f:Nat) (l:List Nm) (q:Mode),(fm Mode.name f l q).2.len<=q.len:=by
  intro f
  induction f with
  |zero=>intro l q;exact af _
  |succ f ih=>
    intro l q;rw [fm];split
    . exact aw (ih _ _) (aw (cP q.next) bG)
    . exact af _
 exact aw (more _ _ _) (cP m)
section
variable {o:World×Value} {w w':World} {p:Nat} {c:eT} {v:Value} {m:Mode} {n:Nat}
theorem Rd.wu (h:Rd o w p c v m n)(hd:c.deep=0)(hm:n+m.len<=600):Calls Tryz.prog 34 #[.pointer (some ⟨p,0,none⟩)] w λr w'=>
 r=.returned (.tuple #[])/\∃(v':Value) (n':Nat) (a:Option Addr) (q k:Nat),Rd o w' p { c with names:=.slice a q k } v' (j9 (lvl 8) (((gu ((m.name.2.take wy).name.2.take cI)).2.take eG).take kP)).2 n'/\Fq p v v' w w':=by
 have l1:=cP m;have l2:=take_len m.name.2 wy;have l3:=cP (m.name.2.take wy);have l4:=take_len (m.name.2.take wy).name.2 cI;have l5:=Qt ((m.name.2.take wy).name.2.take cI);have l6:=take_len (gu ((m.name.2.take wy).name.2.take cI)).2 eG;have l7:=take_len ((gu ((m.name.2.take wy).name.2.take cI)).2.take eG) kP;go_enter Tryz.func34,Tryz.ntmps34;go_wp2_with fail;refine (h.start.rd.name).mono ?_;rintro r w1 ⟨s1,j1,rfl,h1,f1⟩;obtain ⟨_,_,_,_,_,_,_,_,d0,d1,_⟩:=h1.oR;have z0:=h1.j8.2.2.2.2 12;have z1:=h1.j8.2.2.2.2 13;have S1:=(h.start.call h1 f1).acy s1 j1;go_wp2_with fail;refine (S1.rd.take _).mono ?_;rintro r w2 ⟨_,rfl,h2,f2⟩;clear d0 d1 z0 z1;go_wp2_with fail;refine (h2.name).mono ?_;rintro r w3 ⟨s3,j3,rfl,h3,f3⟩;obtain ⟨_,_,_,_,_,_,d0,d1,_⟩:=h3.oR;have z0:=h3.j8.2.2.2.2 10;have z1:=h3.j8.2.2.2.2 11;have S3:=((S1.call h2 f2).call h3 f3).ND s3 j3;go_wp2_with fail;refine (S3.rd.take _).mono ?_;rintro r w4 ⟨_,rfl,h4,f4⟩;clear d0 d1 z0 z1;have h4':Rd (w,v) w4 p c v ((m.name.2.take wy).name.2.take cI) n:=h4;go_wp2_with fail;refine (h4'.names (by omega)).mono ?_;rintro r w5 ⟨a,q,k,rfl,h5,f5⟩;have d0:=h5.j8.1;have z0:=h5.j8.2.2.2.2 14;have S5:=((S3.call h4' f4).call h5 f5).acz (.slice a q k);go_wp2_with fail;refine (S5.rd.take _).mono ?_;rintro r w6 ⟨_,rfl,h6,f6⟩;clear d0 z0;go_wp2_with fail;refine (h6.take _).mono ?_;rintro r w7 ⟨_,rfl,h7,f7⟩;have h7':Rd (w,v) w7 p { c with names:=.slice a q k } v (((gu ((m.name.2.take wy).name.2.take cI)).2.take eG).take kP) n:=h7;go_wp2_with fail;refine (K4 _ w7 p _ v _ n h7' (by show c.deep+8=8;omega) (by omega)).mono ?_;rintro r w8 ⟨v8,n8,k8,rfl,h8,f8,b8⟩;obtain ⟨_,_,_,_,_,_,_,_,_,_,d0,_⟩:=h8.oR;have z0:=h8.j8.2.2.2.2 17;have S8:=(((S5.call h6 f6).call h7' f7).call h8 f8).ajw k8;go_wp2_with fail;go_end0;exact ⟨rfl,v8,n8,a,q,k,S8.fin h⟩
theorem ajH (h:Rd o w p c v m n)(hc:Be c)(hm:n+m.len<=600){t:ByteArray}(c3:w.cell? ⟨p,3,none⟩=some (.string t))(i0:m.is (ByteArray.mk #[99,114,101,97,116,101])=true):Calls Tryz.prog 18 #[.pointer (some ⟨p,0,none⟩)] w (zE o w p v m t):=by
 obtain ⟨_,_,_,_,_,_,_,_,_,_,_,c9⟩:=h.oR;have z9:=h.j8.2.2.2.2 9;have S:=h.start.Ui (.string t);have hs:(aV m).2=(cC mS (m.next.name.2.take cI)).2.take eG:=by unfold aV;rw [aH (show m.is mq=true from i0)]
 have hnx:=bG (m:=m);go_enter Tryz.func18,Tryz.ntmps18;go_wp2_with (go_at_call 30;refine (S.rd.is _).mono ?_;rintro r' w' ⟨rfl,rfl⟩);refine (S.rd.next (S.rd.live i0).2.1).mono ?_;rintro r w1 ⟨rfl,h1,f1⟩;go_wp2_with fail;refine (h1.create (by omega) hc.names hc.kinds).mono ?_;rintro r w2 ⟨rfl,a,a',q,q',k,k',h2,f2⟩;go_wp2_with fail;go_end0;obtain ⟨h9,f9⟩:=((S.call h1 f1).call h2 f2).fin h;rw [<- hs] at h9;exact ⟨rfl,_,_,n,⟨h9,f9⟩,rfl,⟨_,_,_,rfl⟩,⟨_,_,_,rfl⟩,hc.shaped.rows,hc.shaped.dU⟩
theorem ajI (h:Rd o w p c v m n)(hc:Be c){t:ByteArray}(c3:w.cell? ⟨p,3,none⟩=some (.string t))(i0:m.is (ByteArray.mk #[99,114,101,97,116,101])=false)(i1:m.is (ByteArray.mk #[100,114,111,112])=true):Calls Tryz.prog 18 #[.pointer (some ⟨p,0,none⟩)] w (zE o w p v m t):=by
 obtain ⟨_,_,_,_,_,_,_,_,_,_,_,c9⟩:=h.oR;have z9:=h.j8.2.2.2.2 9;have S:=h.start.Ui (.string t);have hs:(aV m).2=m.next.name.2:=by unfold aV;rw [aA (show ¬m.is mq=true from by rw [show m.is mq=false from i0];decide),aH (show m.is vu=true from i1)]
 go_enter Tryz.func18,Tryz.ntmps18;go_wp2_with (go_at_call 30;refine (S.rd.is _).mono ?_;rintro r' w' ⟨rfl,rfl⟩);refine (S.rd.next (S.rd.live i1).2.1).mono ?_;rintro r w1 ⟨rfl,h1,f1⟩;clear c3 c9 z9;go_wp2_with fail;refine (h1.name).mono ?_;rintro r w2 ⟨s2,j2,rfl,h2,f2⟩;obtain ⟨_,_,_,_,_,_,d0,d1,_⟩:=h2.oR;have z0:=h2.j8.2.2.2.2 10;have z1:=h2.j8.2.2.2.2 11;have S2:=((S.call h1 f1).call h2 f2).ND s2 j2;go_wp2_with fail;go_end0;obtain ⟨h9,f9⟩:=S2.fin h;rw [<- hs] at h9;exact ⟨rfl,_,_,n,⟨h9,f9⟩,rfl,hc.shaped.names,hc.shaped.kinds,hc.shaped.rows,hc.shaped.dU⟩
theorem ajJ (h:Rd o w p c v m n)(hc:Be c)(hm:n+m.len<=600){t:ByteArray}(c3:w.cell? ⟨p,3,none⟩=some (.string t))(i0:m.is (ByteArray.mk #[99,114,101,97,116,101])=false)(i1:m.is (ByteArray.mk #[100,114,111,112])=false)(i2:m.is (ByteArray.mk #[108,111,97,100])=false)(i3:m.is (ByteArray.mk #[103,114,97,110,116])=true):Calls Tryz.prog 18 #[.pointer (some ⟨p,0,none⟩)] w (zE o w p v m t):=by
 obtain ⟨_,_,_,_,_,_,_,_,_,_,_,c9⟩:=h.oR;have z9:=h.j8.2.2.2.2 9;have S:=h.start.Ui (.string t);have hs:(aV m).2=(j9 (lvl 8) (((gu ((m.next.name.2.take wy).name.2.take cI)).2.take eG).take kP)).2:=by unfold aV;rw [aA (show ¬m.is mq=true from by rw [show m.is mq=false from i0];decide),aA (show ¬m.is vu=true from by rw [show m.is vu=false from i1];decide),aA (show ¬m.is yu=true from by rw [show m.is yu=false from i2];decide),aH (show m.is wB=true from i3)];rfl
 have hnx:=bG (m:=m);go_enter Tryz.func18,Tryz.ntmps18;go_wp2_with (go_at_call 30;refine (S.rd.is _).mono ?_;rintro r' w' ⟨rfl,rfl⟩);refine (S.rd.next (S.rd.live i3).2.1).mono ?_;rintro r w1 ⟨rfl,h1,f1⟩;clear c3 c9 z9;go_wp2_with fail;refine (h1.wu hc.deep (by omega)).mono ?_;rintro r w2 ⟨rfl,v2,n2,a,q,k,h2,f2⟩;go_wp2_with fail;go_end0;obtain ⟨h9,f9⟩:=((S.call h1 f1).call h2 f2).fin h;rw [<- hs] at h9;exact ⟨rfl,_,_,n2,⟨h9,f9⟩,rfl,⟨_,_,_,rfl⟩,hc.shaped.kinds,hc.shaped.rows,hc.shaped.dU⟩
theorem ajK (h:Rd o w p c v m n)(hc:Be c){t:ByteArray}(c3:w.cell? ⟨p,3,none⟩=some (.string t))(i0:m.is (ByteArray.mk #[99,114,101,97,116,101])=false)(i1:m.is (ByteArray.mk #[100,114,111,112])=false)(i2:m.is (ByteArray.mk #[108,111,97,100])=false)(i3:m.is (ByteArray.mk #[103,114,97,110,116])=false)(i4:m.is (ByteArray.mk #[114,101,118,111,107,101])=true):Calls Tryz.prog 18 #[.pointer (some ⟨p,0,none⟩)] w (zE o w p v m t):=by
 obtain ⟨_,_,_,_,_,_,_,_,_,_,_,c9⟩:=h.oR;have z9:=h.j8.2.2.2.2 9;have S:=h.start.Ui (.string t);have hs:(aV m).2=(m.next.name.2.take wy).name.2:=by unfold aV;rw [aA (show ¬m.is mq=true from by rw [show m.is mq=false from i0];decide),aA (show ¬m.is vu=true from by rw [show m.is vu=false from i1];decide),aA (show ¬m.is yu=true from by rw [show m.is yu=false from i2];decide),aA (show ¬m.is wB=true from by rw [show m.is wB=false from i3];decide),aH (show m.is xB=true from i4)]
 go_enter Tryz.func18,Tryz.ntmps18;go_wp2_with (go_at_call 30;refine (S.rd.is _).mono ?_;rintro r' w' ⟨rfl,rfl⟩);refine (S.rd.next (S.rd.live i4).2.1).mono ?_;rintro r w1 ⟨rfl,h1,f1⟩;clear c3 c9 z9;go_wp2_with fail;refine (h1.name).mono ?_;rintro r w2 ⟨s2,j2,rfl,h2,f2⟩;obtain ⟨_,_,_,_,_,_,_,_,d0,d1,_⟩:=h2.oR;have z0:=h2.j8.2.2.2.2 12;have z1:=h2.j8.2.2.2.2 13;have S2:=((S.call h1 f1).call h2 f2).acy s2 j2;go_wp2_with fail;refine (S2.rd.take _).mono ?_;rintro r w3 ⟨_,rfl,h3,f3⟩;clear d0 d1 z0 z1;go_wp2_with fail;refine (h3.name).mono ?_;rintro r w4 ⟨s4,j4,rfl,h4,f4⟩;obtain ⟨_,_,_,_,_,_,d0,d1,_⟩:=h4.oR;have z0:=h4.j8.2.2.2.2 10;have z1:=h4.j8.2.2.2.2 11;have S4:=((S2.call h3 f3).call h4 f4).ND s4 j4;go_wp2_with fail;go_end0;obtain ⟨h9',f9⟩:=S4.fin h;have h9:Rd o _ p _ v (m.next.name.2.take wy).name.2 n:=h9';rw [<- hs] at h9;exact ⟨rfl,_,_,n,⟨h9,f9⟩,rfl,hc.shaped.names,hc.shaped.kinds,hc.shaped.rows,hc.shaped.dU⟩
end
theorem Tryz.aa8:(Tryz.prog.info? 85).map (λi=>(i.zero,i.size,i.bytes))=some (some (.agg #[.int .i64 0,.slice none 0 0]),2,32):=by kernel_rfl
theorem Un {f:Nat}{l:List oz}{m:Mode}{r:List oz×Mode}(h:jw (f+1) l m=r)(hc:m.is cI=true):jw f (l++[(fW m).1]) (fW m).2=r:=by
 rw [jw,aH hc] at h;exact h
theorem Uo {f:Nat}{l:List oz}{m:Mode}(hc:m.is cI=false):jw f l m=(l,m):=by
 cases f with
 |zero=>rfl
 |succ f=>rw [jw,aA (by rw [hc];decide)]
theorem Yf (m:Mode):(fW m).2.len<=(m.take cI).len:=by
 have more:∀(f:Nat) (l:List qD) (q:Mode),(fm gw f l q).2.len<=q.len:=by
  intro f
  induction f with
  |zero=>intro l q;exact af _
  |succ f ih=>
    intro l q;rw [fm];split
    . exact aw (ih _ _) (aw (xR q.next) bG)
    . exact af _
 exact aw (take_len _ _) (aw (more _ _ _) (xR _))
section
variable {o:World×Value} {w w':World} {p:Nat} {c:eT} {v:Value} {m:Mode} {n:Nat}
theorem ajL (h:Rd o w p c v m n)(hc:Be c)(hm:n+m.len<=600){t:ByteArray}(c3:w.cell? ⟨p,3,none⟩=some (.string t))(i0:m.is (ByteArray.mk #[99,114,101,97,116,101])=false)(i1:m.is (ByteArray.mk #[100,114,111,112])=false)(i2:m.is (ByteArray.mk #[108,111,97,100])=true):Calls Tryz.prog 18 #[.pointer (some ⟨p,0,none⟩)] w (zE o w p v m t):=by
 obtain ⟨x0,hi,jS,jD,jv⟩:=info_parts Tryz.aa8;obtain ⟨_,_,_,_,_,_,_,_,_,_,_,c9⟩:=h.oR;have z9:=h.j8.2.2.2.2 9;have S:=h.start.Ui (.string t);have hs:(aV m).2=(jw (fW m.next.name.2).2.len [(fW m.next.name.2).1] (fW m.next.name.2).2).2:=by unfold aV;rw [aA (show ¬m.is mq=true from by rw [show m.is mq=false from i0];decide),aA (show ¬m.is vu=true from by rw [show m.is vu=false from i1];decide),aH (show m.is yu=true from i2)]
 have Pd:=hide hs;clear hs;have hnx:=bG (m:=m);go_enter Tryz.func18,Tryz.ntmps18;go_wp2_with (go_at_call 30;refine (S.rd.is _).mono ?_;rintro r' w' ⟨rfl,rfl⟩);refine (S.rd.next (S.rd.live i2).2.1).mono ?_;rintro r w1 ⟨rfl,h1,f1⟩;clear c3 c9 z9;go_wp2_with fail;refine (h1.name).mono ?_;rintro r w2 ⟨s2,j2,rfl,h2,f2⟩;obtain ⟨_,_,_,_,_,_,d0,d1,_⟩:=h2.oR;have z0:=h2.j8.2.2.2.2 10;have z1:=h2.j8.2.2.2.2 11;have Ip:=cP m.next;have S2:St (w,v) ((w2.setCell ⟨p,10,none⟩ (.string s2)).setCell ⟨p,11,none⟩ (.int .i64 j2)) p { c with word:=.string t,rows:=.slice none 0 0 } v m.next.name.2 n [.row (.slice none 0 0) 85 2 0]:=by
  have e:{ c with word:=.string t,rows:=.slice none 0 0 }={ c with word:=.string t }:=by cases c;cases hc.rows;rfl
  rw [e];exact (((S.call h1 f1).call h2 f2).ND s2 j2).nil 85 2
 go_wp2_with fail;clear d0 d1 z0 z1;go_loopw [2] (λx wr=>∃(b:Bool) (m':Mode) (sa:Option Addr) (q sk:Nat),x=.bool b/\St (w,v) wr p { c with word:=.string t,rows:=.slice sa q sk } v m' n [.row (.slice sa q sk) 85 2 q]/\q+m'.len<=m.len+1/\Hid ((q=0/\b=true/\m'=m.next.name.2)\/(0<q/\b=m'.is cI/\∃f l,m'.len<=f/\jw f l m'=jw (fW m.next.name.2).2.len [(fW m.next.name.2).1] (fW m.next.name.2).2))) (λ_ wr=>2000 - lenOf ((wr.cell? ⟨p,16,none⟩).getD undef))
 case atStart=>exact ⟨true,_,_,0,_,rfl,S2,by omega,hide (.inl ⟨rfl,rfl,rfl⟩)⟩
 case round=>
  obtain ⟨b,m',sa,q,sk,rfl,S,yX,HA⟩:=hrel;have M0:lenOf ((wr.cell? ⟨p,16,none⟩).getD undef)=q:=by rw [S.rd.j8.2.2.1];rfl
  cases b
  . have HF:=hide (show (aV m).2=m' by
     rw [ae Pd];rcases ae HA with ⟨-,hb,-⟩|⟨-,hb,f,l,-,nT⟩
     . cases hb
     . rw [<- nT,Uo hb.symm])
    go_wp2_with fail;go_end0;obtain ⟨h9,f9⟩:=S.fin h;rw [<- ae HF] at h9;exact ⟨rfl,_,_,n,⟨h9,f9⟩,rfl,hc.shaped.names,hc.shaped.kinds,⟨_,_,_,rfl⟩,hc.shaped.dU⟩
  . have Ey:=Yf m'
    have SK:=take_len m' cI;have HM:Hid (q+1+(fW m').2.len<=m.len+1/\∃f l,(fW m').2.len<=f/\jw f l (fW m').2=jw (fW m.next.name.2).2.len [(fW m.next.name.2).1] (fW m.next.name.2).2):=by
     rcases ae HA with ⟨hq,-,xV⟩|⟨hq,hb,f,l,hfu,nT⟩
     . exact hide ⟨by rw [xV] at Ey SK ⊢;omega,_,_,af _,by rw [xV]⟩
     . have ic:m'.is cI=true:=hb.symm
       have e5:=(S.rd.live ic).2.2;have ht:m'.take cI=m'.next:=aH ic;rw [ht] at Ey;obtain ⟨f,rfl⟩:∃g,f=g+1:=⟨f - 1,by omega⟩;exact hide ⟨by omega,f,_,by omega,Un nT ic⟩
    have hq6:q<=601:=by omega
    have hm6:m'.len<=600:=by
     rcases ae HA with ⟨-,-,xV⟩|⟨hq,-⟩
     . rw [xV];omega
     . omega
    clear Ey SK;go_wp2_with fail;refine (S.rd.row (by omega)).mono ?_;rintro r wc ⟨j3,ra,rq,rk,rfl,h3,f3⟩;have Sb:=(S.call h3 f3).new #[.int .i64 j3,.slice ra rq rk] 85;obtain ⟨wd,Ct⟩:∃wd,wd=wc.alloc (.cells #[.int .i64 j3,.slice ra rq rk] 85 (0,0)):=⟨_,rfl⟩;rw [<- Ct] at Sb;obtain ⟨u0,u1⟩:=jl Sb.box;have c16:=Sb.rd.j8.2.2.1;have afc:=Sb.rd.lt;have Sw:=((Sb.alloc (.cells #[.int .i64 j3,.slice ra rq rk] 85)).drew).jG;obtain ⟨xs,own⟩:=Sw.row;have xD:=hide own;have yU:=hide (World.news_of_block (w:=(wd.alloc (.cells #[.int .i64 j3,.slice ra rq rk] 85 (0,0))).drew) (B:=wd.heap.size) (ai wd (.cells #[.int .i64 j3,.slice ra rq rk] 85 (0,0))));have sU:=hide (show (wd.alloc (.cells #[.int .i64 j3,.slice ra rq rk] 85 (0,0))).drew.heap.size=wd.heap.size+1 by show (wd.heap.push _).size=_;rw [dq]);have ym:=hide Sw.rd.fr.keeps.size;have H1:=hide (show ∀u∈[Value.int .i64 j3,.slice ra rq rk],u.oneCell'=true by intro u hu;simp at hu;rcases hu with rfl|rfl<;>rfl);have Ul:=hide Ct;clear own Ct;go_wp2_with fail;rw [<- ae Ul];go_region_law (refine step_append_lies _ rfl (.tmp 52) (.tmp 54) 37 rfl w.heap.size 85 x0 _ 2 32 Tryz.underlying37 hi jS jD jv rfl (by decide) _ _ _ (by simp [Act.eval]) (ae xD) ⟨wd.heap.size,0,none⟩ 1 1 [.int .i64 j3,.slice ra rq rk] (by simp [Act.eval]) rfl (ae yU) (ae H1) (by decide) (by unfold maxLen;omega) (by omega) (ae ym) (wd.heap.size+1) (ae sU) ?_;intro g gcap we ke qF tu _;have Sd:=Sw.app ke qF (by rw [ae sU];rcases tu with h|h;exact .inl h;exact .inr (by omega));have k16:=Sd.rd.j8.2.2.1;have kf:=Sd.rd.j8.2.2.2.2 16;clear ke qF tu)
    all_goals
     have Se:=Sd.ajv (.slice (some ⟨g,0,none⟩) (q+1) gcap);have Uk:lenOf (((we.setCell ⟨p,16,none⟩ (.slice (some ⟨g,0,none⟩) (q+1) gcap)).cell? ⟨p,16,none⟩).getD undef)=q+1:=by rw [Se.rd.j8.2.2.1];rfl
     go_wp2_with (go_at_call 30;refine (Se.rd.is _).mono ?_;rintro r' w' ⟨rfl,rfl⟩);go_roundw
     case rel=>
      obtain ⟨hf,f',l',UC,zS⟩:=ae HM;exact ⟨_,_,_,q+1,_,rfl,Se.jG.drop,hf,hide (.inr ⟨by omega,rfl,f',l',UC,zS⟩)⟩
     case measure=>rw [Uk,M0];omega
end
end Go.Proofs.YteniahoehoncjaaGreatDoor
