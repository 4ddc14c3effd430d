import Derived.Test.YtfeckmaleonjjaaGreatDoorFDA
import Derived.Test.YtfeckmaleonjjaaGreatDoorFCT
import Derived.Test.YtfeckmaleonjjaaGreatDoorFCX
import Derived.Test.YtfeckmaleonjjaaGreatDoorFCZ
import Derived.Test.YtfeckmaleonjjaaGreatDoorFCY
import Derived.Test.YtfeckmaleonjjaaGreatDoorFBJ
import Derived.Test.YtfeckmaleonjjaaGreatDoorFDG
import Derived.Test.YtfeckmaleonjjaaGreatDoorCards
import Derived.Test.YtfeckmaleonjjaaGreatDoorTie
import Derived.Deep.DeepHandedRow
import Derived.LaidMore
set_option maxHeartbeats 0
set_option maxRecDepth 100000
namespace Go.Proofs.YtfeckmaleonjjaaGreatDoor
section
open Go.RowKit
open _root_.Go.Proofs.Tryz
variable{w:World}{p:Nat}
section
open Go.Maps
theorem ahb{q:Nat}{a:Nm}(d:w.heap[q]?=some (.cells #[.string a.1,.int .i64 a.2] 164 (0,0)))(b:Γ×Γ)(c:GrV) :
 Calls prog 263 #[mkK b,ZM c,.pointer (some ⟨q,0,none⟩)] w λe g=>e=.returned (.bool (ct b.2 a.1))/\w.grownBy g none:=by obtain⟨s,t⟩:=b;obtain⟨⟨j,m,k⟩,l,o⟩:=c;obtain⟨p,r⟩:=bQ d;have i:=aA d;unfold mkK ZM;go_in;go_wp2;go_ret;exact⟨by rw[iZ];rfl,(dG w _ none).andThen (dG _ _ none) (λn f=>by cases f)⟩
theorem adA{aa:zr}{mt j:Nat}{Q:Nat->Prop}{o:Δ (Lit×iU)}{m:Δ (Lit×pL)}(X:dH aa w p mt j Q o m){b:Nm}(ht:nF b) :
 Calls prog 261 #[.agg #[.string b.1,.int .i64 b.2],.pointer (some ⟨p,0,none⟩)] w λa1 w'=>mB aa w w' p mt j Q o (EC (dD o m) b) a1:=by
 have A:b.1.size<=maxLen:=by have:=ht.1;unfold maxLen;omega
 have⟨W,x⟩:=nm ((w.alloc (aaI b.1 b.2)).alloc (nP 0 0));have pS:=zS x;have ES:W.heap.size=w.heap.size+2:=by rw[x];simp
 have k:W.heap[w.heap.size]?=some (aaI b.1 b.2)/\W.heap[w.heap.size+1]?=some (nP 0 0):=(by rw[x];have H:=az (w.alloc (aaI b.1 b.2)) (nP 0 0);rw[show(w.alloc (aaI b.1 b.2)).heap.size=w.heap.size+1 by simp]at H;exact⟨(fY _ _ (by simp)).trans (az w _),H⟩);have B:=X.aU pS;have⟨c0,c1⟩:=bQ k.1;have⟨f0,f1⟩:=bQ k.2;have z0:=jd k.2 0;have z1:=jd k.2 1;have⟨e0,e1,H,e3,e4,e5,e6,e7⟩:=eS B.jy;have a4:=aA B.jy;have EL:=aA k.1;have BT:=aA k.2;have F:=B.find A;have N:=(B.aU (aP (aj _ _))).find A;have HF:=ak k.2;have HQ:=ak k.1;have HW:=ak x;cases hg:fH o (tk b.1)with
 |none=>simp only[hg]at F N;have BA:Hid (EC (dD o m) b=((5,b.2),dD o m)):=ak (by unfold EC dD;simp only;rw[jE,hg];rfl);clear x k hg ES;go_in;go_wp2;rw[<- HW.J];go_region;all_goals (try go_wp2);have⟨⟨U,V⟩,d2⟩:=ie (w1:=W) pS (dt _) HF.J (.int .i64 5) (.int .i64 b.2);refine aE (by simp[results,results261,go_sem,U,V];rfl) rfl ?_;rw[BA.J];exact X.same (aP d2) (5,b.2) rfl
 |some tc=>
  simp only[hg]at F N;unfold iU.val at F N;clear x k ES;go_in;go_wp2;rw[<- HW.J];go_region;all_goals
   (try go_wp2);have⟨r,y⟩:=nm W.drew;rw[<- y];have e:dH aa r p mt j Q o m:=(by rw[y];exact B.aU (aP (aj _ _)));have ai:r.heap[w.heap.size+1]?=some (nP 0 0):=(by rw[y];exact HF.J);have I:r.heap[w.heap.size]?=some (aaI b.1 b.2):=(by rw[y];exact HQ.J);have l:Below w.heap.size w r:=(by rw[y];exact aP pS);have P:=e.aU (aP (aj _ _));have⟨O,Vk,hM,g⟩:=P.Cg.del Tryz.N0 underlying71 (UZ A) 0;have L:∀(c:Nat) (T:Array Value) (ty:TypeId) (fr:Nat×Nat),r.heap[c]?=some (Obj.cells T ty fr)->O.heap[c]?=some (Obj.cells T ty fr):=λc T ty fr d=>(g.block c (aA d) (λa=>by cases a;exact P.Cg.oD d)).trans d;have⟨p0,p1,p2,p3,p4,p5,p6,p7⟩:=eS (L p _ _ _ e.jy);have⟨m0,m1,m2,m3,m4,m5,m6,m7⟩:=eS e.jy;have⟨r0,r1⟩:=bQ I;have a3:=aA (L p _ _ _ e.jy);have a2:=aA e.jy;have Y6:=aA I;have E:=ak ai;have PB:=ak I;have ad:=ak L;clear y ai I P L c0 c1 f0 f1 z0 z1 e0 e1 H e3 e4 e5 e6 e7 F N;go_region;all_goals
    (try go_wp2_with fail);have e:=e;have g:=g;have ar:O.heap[j]?=r.heap[j]?:=g.block j e.Ch.lt (λa=>e.ne (bh a).symm);have v:=e.Ch.kept (w':=O) ar;have ao:∀i∈ik pL.val m,∃R,i.2=ZM R:=λi C=>by
     obtain⟨ab,hy,rfl⟩:=cP.mp C;have⟨_,_,_,_,_,_,_,wQ⟩:=e.gr ab hy;have⟨sa,nZ,WB⟩:=aS.slice wQ.shr;have QT:=wQ.work;obtain⟨k2,kP,Nd,-⟩:=QT;exact⟨((sa,ab.2.sh.length,nZ),(k2,kP)),by show pL.val ab.2=_;unfold pL.val ZM;rw[WB,Nd]⟩
    have⟨a5,dy⟩:=v.toG ao;have Z:=ad.J _ _ _ _ PB.J;have Hm:=ad.J _ _ _ _ E.J;have jK:j≠w.heap.size:=λa=>v.oD (by rw[a];exact Z);have al:=ak (JZ (g:=263) (cb:=#[.pointer (some ⟨w.heap.size,0,none⟩)]) dy (λkl _=>@decide (∃f:Γ,f.size<=maxLen/\kl=gk f b.1) (Classical.propDecidable _)) call263 (λW' i R Dj SG Ku=>by
     have FZ:=(Dj.block _ (aA Z) (λa=>jK (bh a).symm)).trans Z;refine(ahb FZ i R).mono ?_;rintro a w' ⟨rfl,s⟩;refine⟨bI (λc=>Ending.returned (Value.bool c)) ?_,s⟩
     cases d:ct i.2 b.1 with
     |true=>exact(@cJ _ (Classical.propDecidable _) ⟨i.1,SG,by rw[cD.mp d]⟩).symm
     |false=>
       refine(@aV _ (Classical.propDecidable _) ?_).symm;rintro⟨f,t,he⟩;have:=(N3 SG Ku t A he).2;rw[this]at d;rw[cD.mpr rfl]at d
       cases d))
    have HN:=ak jK;have ac:=ak Hm;refine al.J.mono ?_;rintro a D ⟨rfl,ag,n⟩;have an:Hid (∃z,z.Sublist m/\(∀i∈z,∀f:Γ,f.size<=8->i.1≠gk f b.1)/\mK D 239 j (ik pL.val z)/\EC (dD o m) b=((0,0),⟨o6 (ik iU.told o) (tk b.1),ik pL.told z⟩)):=ak (by
     rw[UY]at ag;have G:(8:Nat)<=maxLen:=by unfold maxLen;omega
     have g:=e.gr;refine⟨m.filter λi=>!@decide (∃f:Γ,f.size<=maxLen/\i.1=gk f b.1) (Classical.propDecidable _),uk,λi C f t a=>?_,?_,?_⟩
     . have s:=(fU.mp C).2
       rw[@cJ _ (Classical.propDecidable _) ⟨f,ay t G,a⟩]at s
       cases s
     . have u:=mK.ofG ag
       unfold ik at u ⊢;rw[gL]at u;exact u
     . unfold EC dD
       simp only;rw[jE,hg];simp only[Option.map_some,Option.isSome_some,if_true];congr 2;unfold ik;rw[gL];congr 1;apply rZ;intro i C;obtain⟨u',t',s,u,h3,-⟩:=g i C;simp only[Function.comp];congr 1;by_cases M:∃f:Γ,f.size<=maxLen/\i.1=gk f b.1
       . rw[@cJ _ (Classical.propDecidable _) M]
         have⟨f,t,a⟩:=M;rw[s]at a;obtain⟨rfl,rfl⟩:=N3 (ay u G) (ay h3 G) t A a;exact @cJ _ (Classical.propDecidable _) ⟨_,u,s⟩
       . rw[@aV _ (Classical.propDecidable _) M]
         exact @aV _ (Classical.propDecidable _) (λ⟨f,t,a⟩=>M ⟨f,ay t G,a⟩))
    have K:=(n.block (w.heap.size+1) (aA ac.J) (λa=>by cases a;exact(e.Ch.oD E.J))).trans ac.J;have⟨g0,g1⟩:=bQ K;have y0:=jd K 0;have y1:=jd K 1;have am:=ak K;go_wp2;have⟨U,V⟩:=bQ (bq _ _ 1 _ _ (.int .i64 0) (bq _ _ 0 _ _ (.int .i64 0) am.J));refine aE (by simp[results,results261,go_sem,U,V];rfl) rfl ?_;have⟨z,DV,Tg,aC,ap⟩:=an.J;rw[ap];have e:=e;have l:=l;have g:=g;have n:=n;have av:mt≠w.heap.size+1:=λa=>e.Cg.oD (by rw[a];exact E.J);have ax:j≠w.heap.size+1:=λa=>e.Ch.oD (by rw[a];exact E.J);have v:=hM;rw[xG]at v;have a0:=v.kept (w':=D) (n.block mt v.lt (λa=>e.ne (bh a)));have Vp:∀c,c≠w.heap.size+1->((D.setCell ⟨w.heap.size+1,0,none⟩ (.int .i64 0)).setCell ⟨w.heap.size+1,1,none⟩ (.int .i64 0)).heap[c]?=D.heap[c]?:=λc d=>(aL _ _ _ _ d).trans (aL _ _ _ _ d);have aT:bu (λc=>c<w.heap.size/\c≠mt/\c≠j) w D:=bu.trans (b:=r.drew) ⟨l.os,l.tape,l.output,l.size,λc d=>l.block c d.1⟩ (bu.trans (b:=O) ⟨g.os,g.tape,g.output,g.size,λc d=>g.block c (aw d.1 l.size) (λa=>d.2.1 (bh a))⟩ ⟨n.os,n.tape,n.output,n.size,λc d=>n.block c (aw d.1 (ay l.size g.size)) (λa=>d.2.2 (bh a))⟩);exact X.dropped DV Tg (a0.kept (Vp mt av)) (aC.kept (Vp j ax)) ((aT.setCell (λY=>by have:=Y.1;simp at this;omega) _).setCell (λY=>by have:=Y.1;simp at this;omega) _) rfl
end
end
section
open Go.RowKit
open _root_.Go.Proofs.Tryz
open Go.IntKind renaming i64→κ
open Go.Ending renaming returned→τ
open Go renaming World→ω,Value→υ
open Go.Value renaming int→ι,string→θ,slice→ψ,agg→χ
variable{m:Γ}{x i:Nat}{v:υ}{n:Nat->Prop}{l:ω}
section
open Go.Maps
theorem R3{o:zr}{w:ω}{p mt L:Nat}{X:Nat->Prop}{n:Δ (Lit×iU)}{j:Δ (Lit×pL)}(r:dH o w p mt L X n j){f:Γ}(K:f.size<=maxLen){pl:Nat}{t:Nm}(I:nF t){g:υ}{e:Δ dz}(m:aS w 1 g e.length (e.map λN:dz=>oH N.pl))(s:rM w)(u:vR w) :
 Calls prog 27 #[.pointer (some ⟨p,0,none⟩),θ f,.iface 120 (χ #[ι κ pl,θ t.1,ι κ t.2,g])] w λv w'=>v=τ (ag8 (pC o.bz (dD n j) f pl t e))/\Below w.heap.size w w':=by
 have U:∀w,(Instr.typeAssert (.iface 120 (χ #[ι κ pl,θ t.1,ι κ t.2,g])) 75 120 true).run prog w=.ok (.tuple #[χ #[ι κ pl,θ t.1,ι κ t.2,g],.bool true]) w:=λw=>by kernel_rfl
 obtain⟨O,H,rfl⟩:=aS.slice m;obtain⟨W,d⟩:∃W,W=(w.alloc (.cells #[ι κ 0,ι κ 0] 77)).alloc (.cells #[ι κ pl,θ t.1,ι κ t.2,ψ O e.length H] 120):=⟨_,rfl⟩;have c:Below w.heap.size w W:=by rw[d];exact((aj _ _).alloc (ae _) _).alloc (by simp) _
 have Q:W.heap.size=w.heap.size+2:=by rw[d];simp
 have k:W.heap[w.heap.size]?=some (.cells #[ι κ 0,ι κ 0] 77 (0,0)):=by rw[d];exact(fY _ _ (by simp)).trans (az w _)
 have y:=(VH (r.aU c) K (pl:=pl) I (aS.aU m c (ae _)) (s.aU c (ae _)) (u.aU c (ae _)));have A:=ak d;have z:=ak k;have B:=aA k;clear r d k m s u;go_in;go_wp21;rw[<- A.J];refine y.mono ?_;rintro v V ⟨rfl,i⟩;obtain⟨a,l⟩:∃a,a=pC o.bz (dD n j) f pl t e:=⟨_,rfl⟩;rw[<- l];have b:=(i.block _ B).trans z.J;have x:=(c.trans (i.mono c.size));have⟨R,T⟩:=bQ b;have Y:=jd b 0;have Z:=jd b 1;have P:=aA b;have D:=ak b;have C:=ak l;clear i b l;go_wp2;have⟨⟨E,F⟩,G⟩:=ie x (ae _) D.J (ι κ (a.2.1:Nat)) (ι κ (a.2.2:Nat));refine aE (v:=.tuple #[θ ⟨a.1.toArray⟩,χ #[ι κ (a.2.1:Nat),ι κ (a.2.2:Nat)]]) (by simp[results,results27,go_sem,E,F];try rfl) rfl ?_;exact⟨by rw[<- C.J];rfl,G⟩
theorem xO{a:Bool}{b c:ZA}{d e:vT}:(if a then(b,d)else(c,e))=(if a then b else c,if a then d else e):=by cases a<;>rfl
theorem AX{st:vT}{a:Bp}(d:∀c,a≠.query c):JY x st m a=(if ct m rP then([],(wM st a).1.1,(wM st a).1.2)else([],4,0),if ct m rP then(wM st a).2 else st):=by cases a with|query c=>exact absurd rfl (d c)|create b g=>exact xO|drop b=>exact xO|load b ry=>exact xO|qM e b f i j=>exact xO|pO e b=>exact xO
theorem GR(a:υ)(w:ω):(Instr.typeAssert (.iface 216 a) 75 120 true).run prog w=.ok (.tuple #[χ #[ι κ 0,θ ⟨#[]⟩,ι κ 0,ψ none 0 0],.bool false]) w:=by kernel_rfl
theorem FH(a:υ)(w:ω):(Instr.typeAssert (.iface 216 a) 75 123 true).run prog w=.ok (.tuple #[.iface 216 a,.bool true]) w:=by kernel_rfl
theorem Z6(a:υ)(w:ω):Sem.run prog (method 576 216 a "quarry/quarry.apply") w=.ok (266,a) w:=by kernel_rfl
theorem Lu(a:υ)(w:ω):(Instr.typeAssert (.iface 164 a) 75 120 true).run prog w=.ok (.tuple #[χ #[ι κ 0,θ ⟨#[]⟩,ι κ 0,ψ none 0 0],.bool false]) w:=by kernel_rfl
theorem J7(a:υ)(w:ω):(Instr.typeAssert (.iface 164 a) 75 123 true).run prog w=.ok (.tuple #[.iface 164 a,.bool true]) w:=by kernel_rfl
theorem aho(a:υ)(w:ω):Sem.run prog (method 576 164 a "quarry/quarry.apply") w=.ok (261,a) w:=by kernel_rfl
theorem Lv(a:υ)(w:ω):(Instr.typeAssert (.iface 224 a) 75 120 true).run prog w=.ok (.tuple #[χ #[ι κ 0,θ ⟨#[]⟩,ι κ 0,ψ none 0 0],.bool false]) w:=by kernel_rfl
theorem J8(a:υ)(w:ω):(Instr.typeAssert (.iface 224 a) 75 123 true).run prog w=.ok (.tuple #[.iface 224 a,.bool true]) w:=by kernel_rfl
theorem ahp(a:υ)(w:ω):Sem.run prog (method 576 224 a "quarry/quarry.apply") w=.ok (271,a) w:=by kernel_rfl
theorem J9(a:υ)(w:ω):(Instr.typeAssert (.iface 233 a) 75 120 true).run prog w=.ok (.tuple #[χ #[ι κ 0,θ ⟨#[]⟩,ι κ 0,ψ none 0 0],.bool false]) w:=by kernel_rfl
theorem GU(a:υ)(w:ω):(Instr.typeAssert (.iface 233 a) 75 123 true).run prog w=.ok (.tuple #[.iface 233 a,.bool true]) w:=by kernel_rfl
theorem aea(a:υ)(w:ω):Sem.run prog (method 576 233 a "quarry/quarry.apply") w=.ok (276,a) w:=by kernel_rfl
theorem GV(a:υ)(w:ω):(Instr.typeAssert (.iface 167 a) 75 120 true).run prog w=.ok (.tuple #[χ #[ι κ 0,θ ⟨#[]⟩,ι κ 0,ψ none 0 0],.bool false]) w:=by kernel_rfl
theorem FI(a:υ)(w:ω):(Instr.typeAssert (.iface 167 a) 75 123 true).run prog w=.ok (.tuple #[.iface 167 a,.bool true]) w:=by kernel_rfl
theorem Z7(a:υ)(w:ω):Sem.run prog (method 576 167 a "quarry/quarry.apply") w=.ok (264,a) w:=by kernel_rfl
theorem Z8{o:zr}{w:ω}{p mt:Nat}{X:Nat->Prop}{g:Δ (Lit×iU)}{j:Δ (Lit×pL)}(n:dH o w p mt x X g j)(O:m.size<=maxLen){y:Bp}(H:Lt w i v y)(t:Fc y)(K:rM w)(L:vR w) :
 Calls prog 27 #[.pointer (some ⟨p,0,none⟩),θ m,v] w λl w'=>l=τ (ag8 (JY o.bz (dD g j) m y).1)/\Left o w w' p mt x X g (JY o.bz (dD g j) m y).2:=by cases H with|tf b B v r=>(have⟨d,k,s,z⟩:=t;refine(rQ n (uz:=m) (res:=qy (dD g j) b B) (GR _) (FH _) (Z6 _) call266 (λA u c f=>Vs f d k s z (aS.aU (aS.dE r) c (ae _)))).mono ?_;rintro l w' ⟨rfl,e⟩;rw[AX (λ_ a=>by cases a)];exact⟨rfl,e⟩)|DR b=>(refine(rQ n (uz:=m) (res:=EC (dD g j) b) (Lu _) (J7 _) (aho _) call261 (λA u c f=>adA f t)).mono ?_;rintro l w' ⟨rfl,e⟩;rw[AX (λ_ a=>by cases a)];exact⟨rfl,e⟩)|BX b v R ry r N=>(have⟨d,k,s,z⟩:=t;refine(rQ n (uz:=m) (res:=AK (dD g j) b ry) (Lv _) (J8 _) (ahp _) call271 (λA u c f=>adQ f d k s z (aS.aU (aS.dE r) c (ae _)) (N.mono (λ_ _ _ E=>⟨E.1,aS.aU (aS.dE E.2) c (ae _)⟩)))).mono ?_;rintro l w' ⟨rfl,e⟩;rw[AX (λ_ a=>by cases a)];exact⟨rfl,e⟩)|ad3 D b B a C v r=>(obtain⟨d,k,s,z,F,G,-⟩:=t;refine(rQ n (uz:=m) (res:=vm (dD g j) D b B a C) (J9 _) (GU _) (aea _) call276 (λA u c f=>ZR f d k s F (aS.aU (aS.dE r) c (ae _)) G)).mono ?_;rintro l w' ⟨rfl,e⟩;rw[AX (λ_ a=>by cases a)];exact⟨rfl,e⟩)|ux D b=>(have⟨d,k⟩:=t;refine(rQ n (uz:=m) (res:=uE (dD g j) D b) (GV _) (FI _) (Z7 _) call264 (λA u c f=>Vr f d k)).mono ?_;rintro l w' ⟨rfl,e⟩;rw[AX (λ_ a=>by cases a)];exact⟨rfl,e⟩)|ad4 C b v Q r=>have⟨P,l,I,d,k,s⟩:=t;cases I;refine(R3 n O (pl:=C) (t:=b) d (aS.dE r) K L).mono ?_;rintro l w' ⟨rfl,c⟩;exact⟨rfl,Left.same n c⟩
structure Ci (w:ω):Prop where
 laid:Laid w
 kinds:rM w
 pow:vR w
 globs:Eu w
 ops:Rr w
theorem aeb:prog.globalNamed "internal/strconv.uint64pow10"=some 9:=by kernel_rfl
theorem Ci.on{w w':ω}(a:Ci w)(b:Below 12 w w'):Ci w' where
 laid:=λc k i=>(b.cell (p:=(Ad 0 c)) (show 0<12 by decide)).trans (a.laid c k i)
 kinds:=⟨aw a.kinds.1 b.size,λe f=>(b.cell (p:=(Ad 1 e)) (show 1<12 by decide)).trans (a.kinds.2 e f)⟩
 pow:=by
  have d:=a.pow;unfold vR Lib.TabIs World.var? at *;rw[aeb]at *;simp only[Option.bind_some]at d ⊢;rw[b.block 9 (by decide)];exact d
 globs:=a.globs.aU b (ae _)
 ops:=λc j g=>(b.cell (p:=(Ad 8 c)) (show 8<12 by decide)).trans (a.ops c j g)
theorem Ci.size{w:ω}(a:Ci w):12<=w.heap.size:=a.globs.size
theorem Hp.told{w':ω}{f:Ending}{S:Γ}(g:Hp w' x f S):∃c b d,f=τ (.tuple #[c,χ #[ι κ (b:Nat),ι κ (d:Nat)]])/\Vd c/\((∃e,lG S=.inl e/\b=0/\aqD w' x c e)\/(∃q,lG S=.inr q/\b=q.1/\d=q.2/\b≠0)):=by have⟨c,b,d,i,j,a⟩:=g;refine⟨c,b,d,i,j,?_⟩;cases hr:lG S with|inl e=>rw[hr]at a;exact .inl ⟨e,rfl,a.1,a.2⟩|inr q=>rw[hr]at a;exact .inr ⟨q,rfl,a.1,a.2.1,a.2.2⟩
def doV(a:ZA):υ:=.tuple #[θ ⟨a.1.toArray⟩,ι κ (a.2.1:Nat),ι κ (a.2.2:Nat)]
theorem al6{o:zr}{w:ω}{p mt:Nat}{X:Nat->Prop}{c:Δ (Lit×iU)}{f:Δ (Lit×pL)}(h:dH o w p mt x X c f)(N:Ci w){b:Γ}(hu:m.size<=maxLen) :
 Calls prog 15 #[.pointer (some (Ad p 0)),θ m,θ b] w λv w'=>v=τ (doV (Kr o.bz (dD c f) m b).1)/\(∀q,lG b=.inr q->q.1≠0)/\Left o w w' p mt x X c (Kr o.bz (dD c f) m b).2:=by
 by_cases V:300<b.size;{have SH:((b.size:Nat):Int)>300:=(by omega);have HR:Hid (Kr o.bz (dD c f) m b=(([],1,0),dD c f)):=ak (by unfold Kr;rw[aN V]);have A:Hid (∀q,lG b=.inr q->q.1≠0):=ak (λq t=>by unfold lG at t;rw[aN V]at t;cases t;decide);have g:=ak h;go_in;go_wp2;go_ret3;rw[HR.J];exact⟨rfl,A.J,Left.same g.J (aj _ _)⟩}
 have SH:¬((b.size:Nat):Int)>300:=by omega
 have HP:=(Z5 b w (by omega) N.globs N.ops);have g:=ak h;have HL:=ak V;go_in;go_wp21;refine HP.mono ?_;rintro v a ⟨Y,l⟩;obtain⟨ax,j,d,rfl,hv,rL⟩:=Y.told;have i:Below a.heap.size a (a.alloc (nP (j:Nat) (d:Nat))):=(aj _ _).alloc (ae _) _;have u:=az a (nP (j:Nat) (d:Nat));have⟨W1,P⟩:=nm (a.alloc (nP (j:Nat) (d:Nat)));rw[<- P]at i u;have HF:=(tw j d W1);have DL:=ak u;have Ko:=ak P;have V5:=bQ u;have⟨k0,k1⟩:=V5;have oY:=aA u;rcases rL with⟨an,r,VN,I⟩|⟨q,r,Z,FP,Q⟩
 {have H:=ak r;have ag:=ak VN;clear Y u P r VN;have ap:∃ar av,ax=.iface ar av:=(by have I:=I _ λ_ _ _=>rfl;cases I<;>exact⟨_,_,rfl⟩);obtain⟨tv,uv,rfl⟩:=ap;go_wp21;rw[<- Ko.J];refine HF.mono ?_;rintro v E ⟨rfl,k⟩;have L:decide (j≠0)=false:=(by simp[ag.J]);rw[L];have z:Below w.heap.size w E:=(l.trans (i.mono l.size)).trans (k.mono (ay l.size i.size));have ai:=(adJ (g.J.aU z));have O:=ak z;have D:=(k.block _ oY).trans DL.J;have IG:=ak D;have am:=aA D;have zY:∀e,e<a.heap.size->E.heap[e]?=a.heap[e]?:=λe B=>(k.block e (aw B i.size)).trans (i.block e B);have Pz:=ak (show a.heap.size<=E.heap.size/\_ from⟨ay i.size k.size,zY⟩);go_wp21;refine ai.mono ?_;rintro v w3 ⟨rfl,qP⟩;have U:=O.J.trans (qP.mono O.J.size);have BS:=(qP.block _ am).trans IG.J;have T:=aA BS;have ac:w.heap.size<=a.heap.size:=l.size;have Kn:=(g.J.wide U ac T);have aa:=N.on (U.mono N.size);have ad:=(Z8 Kn hu (I w3 λe _ B=>(qP.block e (aw B Pz.J.1)).trans (Pz.J.2 e B)) (IB H.J) aa.kinds aa.pow);have EK:=ak BS;go_wp21;refine ad.mono ?_;rintro v F ⟨rfl,K⟩;have n:F.heap[a.heap.size]?=some (nP (j:Nat) (d:Nat)):=(by obtain⟨Rz,BI,-,-,C,-⟩:=K;refine(C.block _ ⟨T,λhm=>?_⟩).trans EK.J;have:=g.J.pZ _ (g.J.sub _ hm);omega);have⟨y,hx⟩:=nm (JY o.bz (dD c f) m an);rw[<- hx]at K ⊢;have mh:=λW9 ao=>Left.ends (W9:=W9) g.J U ac T K ao;have s:Hid (bu (λd=>d<F.heap.size/\d≠a.heap.size) F ((F.setCell (Ad a.heap.size 0) (ι κ (y.1.2.1:Nat))).setCell (Ad a.heap.size 1) (ι κ (y.1.2.2:Nat)))):=ak (((bu.refl _ _).setCell (λC=>C.2 rfl) _).setCell (λC=>C.2 rfl) _);have⟨W5,G⟩:=nm ((F.setCell (Ad a.heap.size 0) (ι κ (y.1.2.1:Nat))).setCell (Ad a.heap.size 1) (ι κ (y.1.2.2:Nat)));have ab:W5.heap[a.heap.size]?=some (nP (y.1.2.1:Nat) (y.1.2.2:Nat)):=(by rw[G];exact bq _ _ 1 _ _ _ (bq _ _ 0 _ _ _ n));rw[<- G]at s;have al:=ak G;have⟨j0,j1⟩:=bQ ab;have R:=ak ((alR (bz:=o.bz) (st:=dD c f) (uz:=m) HL.J H.J).trans hx.symm);have⟨g0,g1⟩:=bQ n;have y0:=jd n 0;have y1:=jd n 1;have aT:=aA n;have aC:=ak n;have A:Hid (∀q,lG b=.inr q->q.1≠0):=ak (λq t=>by rw[H.J]at t;cases t);unfold ag8;clear K n hx k0 k1 G ab;go_wp2;rw[<- al.J];go_quiet(fail);go_wp2;go_ret3;rw[R.J];exact⟨rfl,A.J,mh _ ⟨s.J.os,s.J.tape,s.J.output,s.J.size,s.J.block⟩⟩}
 have H:=ak r;have L:decide (j≠0)=true:=by simpa using Q
 have HD:=ak L;have A:Hid (∀q,lG b=.inr q->q.1≠0):=ak (λq' FZ=>by rw[r]at FZ;cases FZ;rw[<- Z];exact Q);have R:Hid (Kr o.bz (dD c f) m b=(([],j,d),dD c f)):=ak (by rw[Z,FP];exact ag9 HL.J r);clear Y u P r Z FP Q L;rcases hv with rfl|⟨tv,uv,rfl⟩
 all_goals go_wp21;rw[<- Ko.J];refine HF.mono ?_;rintro v E ⟨rfl,k⟩;rw[HD.J];have z:Below w.heap.size w E:=(l.trans (i.mono l.size)).trans (k.mono (ay l.size i.size));have D:=(k.block _ oY).trans DL.J;have⟨g0,g1⟩:=bQ D;have O:=ak z;clear k z D;go_wp2;go_quiet(fail);go_wp2;go_ret3;rw[R.J];exact⟨rfl,A.J,Left.same g.J (below_drewN O.J _)⟩
def One(o:zr)(w:ω)(p:Nat)(X M:Nat->Prop)(st:vT):Prop:=∃mt mg tl gl,dH o w p mt mg X tl gl/\dD tl gl=st/\M=zK mt mg tl
structure Di (o:zr)(w w':ω)(p:Nat)(X M X' M':Nat->Prop)(st:vT):Prop where
 one:One o w' p X' M' st
 more:∀b,X b->X' b
 grows:∀b,X' b->X b\/w.heap.size<=b
 Ow:∀b,M' b->M b\/w.heap.size<=b
 keep:bu (λb=>b<w.heap.size/\¬M b) w w'
section
variable {o o2:zr} {w w':ω} {p p2:Nat} {X X' M M' M2:Nat->Prop} {st st2:vT}
theorem One.sub(a:One o w p X M st):∀b,M b->X b:=by obtain⟨mt,d,e,c,a,-,rfl⟩:=a;exact a.sub
theorem One.pZ(a:One o w p X M st):∀b,X b->b<w.heap.size:=by obtain⟨mt,d,e,c,a,-,-⟩:=a;exact a.pZ
theorem One.stays(b:One o w p X M st)(j:w.heap.size<=w'.heap.size)(g:∀a,a<w.heap.size->¬X a->w'.heap[a]?=w.heap[a]?)(i:∀a,M a->w'.heap[a]?=w.heap[a]?)(e:∀a,X a->X' a)(f:∀a,X' a->X a\/w.heap.size<=a)(l:∀a,X' a->a<w'.heap.size):One o w' p X' M st:=by obtain⟨mt,k,m,c,b,d,rfl⟩:=b;exact⟨mt,k,m,c,b.stays ⟨j,g,f⟩ i e l,d,rfl⟩
theorem One.wide(c:One o w p X M st)(d:Below w.heap.size w w'):One o w' p (λa=>X a\/(w.heap.size<=a/\a<w'.heap.size)) M st:=
 c.stays d.size (λa f _=>d.block a f) (λa g=>d.block a (c.pZ a (c.sub a g))) (λa b=>.inl b) (λa b=>b.imp id (λe=>e.1)) (λa b=>by
  rcases b with b|b
  . exact aw (c.pZ a b) d.size
  . exact b.2)
theorem One.put(d:One o w p X M st)(g:X x)(i:¬M x)(j:w'.heap.size=w.heap.size)(e:∀a,a≠x->w'.heap[a]?=w.heap[a]?):One o w' p X M st:=
 d.stays (by omega) (λa _ b=>e a (λc=>b (c ▸ g))) (λa f=>e a (λc=>i (c ▸ f))) (λ_ b=>b) (λ_ b=>.inl b) (λa b=>by rw[j];exact d.pZ a b)
theorem One.set(a:One o w p X M st){i:Nat}(c:X x)(d:¬M x):One o (w.setCell ⟨x,i,none⟩ v) p X M st:=
 a.put c d (by simp[World.setCell]) (λe b=>aL _ _ _ _ b)
theorem One.beside(d:One o2 w p2 X M2 st2)(b:Di o w w' p X M X' M' st)(j:∀a,M a->X a)(i:∀a,M a->¬M2 a):One o2 w' p2 X' M2 st2:=
 d.stays b.keep.size (λa f g=>b.keep.block a ⟨f,λc=>g (j a c)⟩) (λa e=>b.keep.block a ⟨d.pZ a (d.sub a e),λc=>i a c e⟩) b.more b.grows b.one.pZ
theorem Di.apart(g:Di o w w' p X M X' M' st)(c:One o2 w p2 X M2 st2)(f:∀a,M a->¬M2 a):∀a,M' a->¬M2 a:=λa e d=>by
 rcases g.Ow a e with b|b
 . exact f a b d
 . have:=c.pZ a (c.sub a d);omega
theorem Di.of{i:ω}(d:Below w.heap.size w l)(c:Di o l i p (λa=>X a\/(w.heap.size<=a/\a<l.heap.size)) M n M' st)(e:bu (λa=>a<w.heap.size) i w')(m:One o w' p X' M' st)(j:∀a,n a->X' a)(k:∀a,X' a->n a\/w.heap.size<=a):Di o w w' p X M X' M' st where
 one:=m
 more:=λa f=>j a (c.more a (.inl f))
 grows:=λa f=>by
  have:=d.size;rcases k a f with b|b
  . rcases c.grows a b with(b|b)|b
    . exact .inl b
    . exact .inr b.1
    . exact .inr (by omega)
  . exact .inr b
 Ow:=λa f=>by
  have:=d.size;rcases c.Ow a f with b|b
  . exact .inl b
  . exact .inr (by omega)
 keep:=by
  have r:=d.size;refine⟨e.os.trans (c.keep.os.trans d.os),e.tape.trans (c.keep.tape.trans d.tape),e.output.trans (c.keep.output.trans d.output),ay r (ay c.keep.size e.size),λa g=>?_⟩;exact(e.block a g.1).trans ((c.keep.block a ⟨by have:=g.1;omega,g.2⟩).trans (d.block a g.1))
theorem Di.trans{M2:Nat->Prop}{g:vT}(c:Di o w w' p X M X' M' st)(d:Di o w' l p X' M' n M2 g):Di o w l p X M n M2 g where
 one:=d.one
 more:=λa e=>d.more a (c.more a e)
 grows:=λa e=>by
  rcases d.grows a e with b|b
  . exact c.grows a b
  . exact .inr (ay c.keep.size b)
 Ow:=λa e=>by
  rcases d.Ow a e with b|b
  . exact c.Ow a b
  . exact .inr (ay c.keep.size b)
 keep:=by
  refine⟨d.keep.os.trans c.keep.os,d.keep.tape.trans c.keep.tape,d.keep.output.trans c.keep.output,ay c.keep.size d.keep.size,λa f=>?_⟩;refine(d.keep.block a ⟨aw f.1 c.keep.size,λb=>?_⟩).trans (c.keep.block a f);rcases c.Ow a b with b|b
  . exact f.2 b
  . have:=f.1;omega
theorem Di.aU(b:Di o w w' p X M X' M' st){lo:Nat}(d:∀a,M a->lo<=a)(f:lo<=w.heap.size):Below lo w w':=
 ⟨b.keep.os,b.keep.tape,b.keep.output,b.keep.size,λa e=>b.keep.block a ⟨by omega,λc=>by have:=d a c;omega⟩⟩
end
theorem aec{o:zr}{w:ω}{p:Nat}{X M:Nat->Prop}{st:vT}(a:One o w p X M st)(n:Ci w){text:Γ}(s:m.size<=maxLen) :
 Calls prog 15 #[.pointer (some ⟨p,0,none⟩),θ m,θ text] w λf w'=>f=τ (doV (Kr o.bz st m text).1)/\(∀q,lG text=.inr q->q.1≠0)/\∃X' M',Di o w w' p X M X' M' (Kr o.bz st m text).2:=by obtain⟨mt,t,v,u,a,rfl,rfl⟩:=a;refine(al6 a n s).mono ?_;rintro f w' ⟨rfl,r,i,g,j,k,l,e⟩;refine⟨rfl,r,_,_,⟨mt,t,i,g,k,j,rfl⟩,λb d=>.inl d,λb d=>?_,e,l⟩;rcases d with c|c;{exact .inl c};exact(e b c).imp (a.sub b) id
theorem Xm(k i l g:Int)(j push:Bool)(w:ω){X0:Nat->Prop}(r:∀a,X0 a->a<w.heap.size):Calls prog 13 #[χ #[ι κ k,ι κ i,ι κ l,.bool j,.bool push,ι κ g]] w λc w'=>∃p X M,c=τ (.pointer (some ⟨p,0,none⟩))/\One (MQ k i l g j push) w' p X M ⟨[],[]⟩/\(∀a,X0 a->X a)/\(∀a,X a->X0 a\/w.heap.size<=a)/\(∀a,M a->w.heap.size<=a)/\Below w.heap.size w w':=by
 refine(ahe k i l g j push w).mono ?_;rintro c w' ⟨p,mt,f,rfl,d,s,t,u,e⟩;have n:∀a,zK mt f [] a->w.heap.size<=a:=λa e=>by
  rcases e with c|c|⟨m,b,-⟩
  . omega
  . omega
  . simp at b
 refine⟨p,λa=>X0 a\/zK mt f [] a,zK mt f [],rfl,⟨mt,f,[],[],?_,rfl,rfl⟩,λa b=>.inl b,λa b=>b.imp id (n a),n,e⟩;exact
  { jy:=d.jy
    Cg:=d.Cg
    Ch:=d.Ch
    ne:=d.ne
    tab:=λm b=>by simp at b
    apart:=List.Pairwise.nil
    gr:=λm b=>by simp at b
    bJ:=λm b=>by simp at b
    sub:=λa e=>.inr e
    pZ:=λa b=>by
     rcases b with c|c
     . exact aw (r a c) e.size
     . exact d.pZ a c
    pX:=λb=>by
     rcases b with c|c
     . have:=r p c;omega
     . exact d.pX c
    few:=d.few }
end
end
section
open List renaming length→Λ
open Go.RowKit
variable{w m:Γ}
section
open Go.Maps
section
variable {α:Type} {p:α->Bool}
theorem erase_filter:∀{d:Δ α} {k:Nat},d.findIdx? p=some k->d.Pairwise (λa b=>¬(p a=true/\p b=true))->d.eraseIdx k=d.filter λa=>!p a
 |[],_,h,_=>by simp at h
 |a::r,k,h,hp=>by
   have⟨e,f⟩:=bE.1 hp;rw[qL]at h
   cases ha:p a with
   |true=>
     rw[ha]at h
     cases h
     simp only[List.eraseIdx_zero,List.tail_cons,List.filter_cons,ha,Bool.not_true];exact(List.filter_eq_self.2 λb g=>by cases zC:p b;rfl;exact absurd ⟨ha,zC⟩ (e b g)).symm
   |false=>
     rw[ha]at h;obtain⟨j,i,rfl⟩:=fJ.1 h;simp only[List.eraseIdx_cons_succ,List.filter_cons,ha,Bool.not_false,if_true];rw[erase_filter i f]
theorem JR:∀{l:Δ α} {b:Nat} (d:b<Λ l),(l[b]::l.eraseIdx b).Perm l
 |a::r,0,_=>.refl _
 |a::r,b+1,d=>(List.Perm.swap _ _ _).trans ((JR (l:=r) (by simpa using d)).cons a)
theorem WZ{t:α}:∀{b:Δ α} {k:Nat},b.findIdx? p=some k->b.Pairwise (λa d=>¬(p a=true/\p d=true))->b.set k t=b.map λa=>if p a then t else a
 |[],_,h,_=>by simp at h
 |a::r,k,h,hp=>by
   have⟨e,f⟩:=bE.1 hp;rw[qL]at h
   cases ha:p a with
   |true=>
     rw[ha]at h
     cases h
     rw[iB,jN,aN ha];congr 1
     conv=>lhs;rw[<- List.map_id r]
     exact fT λd g=>by rw[aH λj=>e d g ⟨ha,j⟩];rfl
   |false=>
     rw[ha]at h;obtain⟨l,i,rfl⟩:=fJ.1 h;rw[oq,jN,aH (by rw[ha];decide),WZ i f]
end
theorem Bm{d:Type}(a:Lit×d):∀b,(AA a b).Perm (a::b)
 |[]=>.refl _
 |y::r=>by
   unfold AA;split
   . exact .refl _
   . exact((Bm a r).cons y).trans (.swap _ _ _)
theorem W8(b a:Γ):(tk b).sameKey (tk a)=ct b a:=by cases h:ct b a with|true=>rw[cD.1 h];exact lJ (Db a)|false=>cases h2:(tk b).sameKey (tk a)with|false=>rfl|true=>rw[N2 (gj h2),cD.2 rfl]at h;cases h
def Sz8(u t:Γ):Prop:=u.size<=8/\t.size<=8
theorem Ol{u t:Γ}(a:Sz8 u t)(b:Sz8 w m)(d:gk u t=gk w m):u=w/\t=m:=N3 (ay a.1 (by decide)) (ay a.2 (by decide)) (ay b.1 (by decide)) (ay b.2 (by decide)) d
theorem Xa{u t:Γ}(a:Sz8 u t)(b:Sz8 w m):(gk u t).sameKey (gk w m)=(ct u w&&ct t m):=by cases h2:(gk u t).sameKey (gk w m)with|true=>(obtain⟨rfl,rfl⟩:=Ol a b (gj h2);rw[cD.2 rfl,cD.2 rfl];rfl)|false=>cases h3:(ct u w&&ct t m)with|false=>rfl|true=>simp only[Bool.and_eq_true]at h3;rw[cD.1 h3.1,cD.1 h3.2,lJ (Vj _ _)]at h2;cases h2
def tOf(x:Lit×Zy):Lit×Δ bU×Nat:=(x.1,x.2.1,Λ x.2.2)
def ZD(t:gP):Lit×Δ bU×Nat:=(tk t.aI,t.cy,Λ t.ry)
def Dc(g:iz):Lit:=gk g.uz g.tj
structure Dd (st:vT)(ts:Δ gP)(gs:Δ iz):Prop where
 tabs:(st.tabs.map tOf).Perm (ts.map ZD)
 Da:(st.Da.map Prod.fst).Perm (gs.map Dc)
 usr:∀g∈gs,Sz8 g.uz g.tj
section
variable {st:vT} {ts:Δ gP} {gs:Δ iz} {n u t:Γ} {k:Nat}
theorem Dd.awv(S:Dd st ts gs):Λ st.tabs=Λ ts:=by simpa using S.tabs.length_eq
theorem Dd.aww(S:Dd st ts gs):Λ st.Da=Λ gs:=by simpa using S.Da.length_eq
theorem Dd.AP(S:Dd st ts gs)(b:ts.findIdx? (λg=>ct g.aI n)=none):fH st.tabs (tk n)=none:=by cases hl:fH st.tabs (tk n)with|none=>rfl|some i=>have⟨t,f,e⟩:=cP.1 (S.tabs.mem_iff.1 (fu (f:=tOf) (mQ hl)));have d:tk t.aI=tk n:=bI Prod.fst e;have a:=eA.1 b t f;rw[N2 d,cD.2 rfl]at a;cases a
theorem Dd.ED(S:Dd st ts gs)(y:ts.Pairwise λs v=>ct s.aI v.aI=false)(w:ts.findIdx? (λb=>ct b.aI n)=some k):∃t a,ts[k]?=some t/\ct t.aI n=true/\fH st.tabs (tk n)=some a/\a.1=t.cy/\(Λ a.2)=Λ t.ry:=by obtain⟨l,g,-⟩:=aR.1 w;have m:ts[k]∈ts:=ej l;have⟨b,B,x⟩:=cP.1 (S.tabs.mem_iff.2 (fu (f:=ZD) m));have r:b.1=tk n:=(bI Prod.fst x).trans (bI tk (cD.1 g));have f:∃a,fH st.tabs (tk n)=some a:=(by cases f:fH st.tabs (tk n)with|some a=>exact⟨a,rfl⟩|none=>have d:=xN f;have e:b∈o6 st.tabs (tk n):=(by rw[d];exact B);exact absurd r (adt (Db n) e));have⟨a,o⟩:=f;have⟨C,z,i⟩:=cP.1 (S.tabs.mem_iff.1 (fu (f:=tOf) (mQ o)));have d:tk C.aI=tk n:=bI Prod.fst i;have e:=PU y m z g (by rw[N2 d];exact cD.2 rfl);subst e;exact⟨_,a,af l,g,o,(bI (λj=>j.2.1) i).symm,(bI (λj=>j.2.2) i).symm⟩
theorem Dd.Xb(S:Dd st ts gs)(m:Sz8 u t):(fH st.Da (gk u t)).isSome=(gs.findIdx? λa=>ct a.uz u&&ct a.tj t).isSome:=by cases hl:fH st.Da (gk u t)with|none=>(cases hf:gs.findIdx? λa=>ct a.uz u&&ct a.tj t with|none=>rfl|some k=>obtain⟨j,f,-⟩:=aR.1 hf;have⟨d,l,e⟩:=cP.1 (S.Da.mem_iff.2 (fu (f:=Dc) (ej j)));have i:=xN hl;have b:d∈o6 st.Da (gk u t):=(by rw[i];exact l);simp only[Bool.and_eq_true]at f;exact absurd (e.trans (by unfold Dc;rw[cD.1 f.1,cD.1 f.2])) (adt (Vj u t) b))|some o=>have⟨a,g,e⟩:=cP.1 (S.Da.mem_iff.1 (fu (f:=Prod.fst) (mQ hl)));obtain⟨rfl,rfl⟩:=Ol (S.usr a g) m e;cases hf:gs.findIdx? λd=>ct d.uz a.uz&&ct d.tj a.tj with|some k=>rfl|none=>have b:=eA.1 hf a g;rw[cD.2 rfl,cD.2 rfl]at b;cases b
theorem RB(g:ts.Pairwise λa b=>ct a.aI b.aI=false):ts.Pairwise λa b=>¬(ct a.aI n=true/\ct b.aI n=true):=g.imp λd ⟨e,f⟩=>by rw[cD.1 e,cD.1 f,cD.2 rfl]at d;cases d
theorem Xc(g:gs.Pairwise λa b=>(ct a.uz b.uz&&ct a.tj b.tj)=false):gs.Pairwise λa b=>¬((ct a.uz u&&ct a.tj t)=true/\(ct b.uz u&&ct b.tj t)=true):=g.imp λf ⟨d,e⟩=>by
 simp only[Bool.and_eq_true]at d e;rw[cD.1 d.1,cD.1 d.2,cD.1 e.1,cD.1 e.2,cD.2 rfl,cD.2 rfl]at f
 cases f
end
theorem JT:∀(d a:Δ (Nm×Nat)),xM d (a.map λc=>(c.1.1,c.2))=(match ru (a.map Prod.fst) (d.map Prod.fst)with|some q=>.inl q|none=>.inr ((a++d).map λc=>(c.1.1,c.2)))
 |[],a=>by simp[xM,ru]
 |c::d,a=>by
   have f:=JT d (a++[c]);rw[cT,cC,cT]at f;have i:(a.map λc=>(c.1.1,c.2)).any (λj=>ct j.1 c.1.1)=(a.map Prod.fst).any λb=>ct b.1 c.1.1:=by rw[List.any_map,List.any_map];rfl
   have e:(0<=mI (a.map λc=>(c.1.1,c.2)) c.1.1)↔((a.map Prod.fst).any λb=>ct b.1 c.1.1)=true:=by
    rw[<- Int.not_lt,DT,i];simp
   unfold xM;simp only[List.map_cons,ru]
   cases hs:(a.map Prod.fst).any λb=>ct b.1 c.1.1 with
   |true=>rw[aN (e.2 hs)];rfl
   |false=>
     rw[aH λg=>by rw[e.1 g]at hs;cases hs];exact f
theorem JU:∀(e:Δ xY) (f:Δ bU),(∀a∈e,Iz a)->tN e f=((e.zip f).find? (λp=>decide (p.1.kind≠-1/\p.1.kind≠(p.2.2:Int)))).map (λp=>p.1.pl)
 |[],_,_=>by simp[tN]
 |a::r,[],_=>by simp[tN]
 |a::r,c::l,i=>by
   have v:=JU r l λw s=>i w (.tail _ s);unfold tN;rw[List.zip_cons_cons,zx];have o:(!a.bH&&!decide (a.kind=(c.2:Int)))=decide (a.kind≠-1/\a.kind≠(c.2:Int)):=by
    rcases i a (.head _)with⟨b,-,-,d⟩|⟨b,d⟩
    . rw[b,d];simp
    . have j:a.kind≠-1:=by rcases d with⟨g,-⟩|⟨g,-⟩|⟨g,-⟩<;>omega
      rw[b];by_cases m:a.kind=(c.2:Int)<;>simp[j,m]
   rw[o]
   cases decide (a.kind≠-1/\a.kind≠(c.2:Int))with
   |true=>rfl
   |false=>exact v
theorem ZE{a:oE}(d:uy a)(b:Δ bU):gH a b=lU b a:=by unfold gH lU;rw[JU a.ew b d.2.1]
theorem JV{b:Δ bU}:∀(ry:Δ oE),(∀a∈ry,uy a)->ry.findSome? (λa=>gH a b)=ry.findSome? (lU b)
 |[],_=>rfl
 |a::l,h=>by
   rw[pW,pW,ZE (h a (.head _)),JV l λe d=>h e (.tail _ d)]
theorem Xd{a:Δ bU}(b:0<=mI a w):∃c,a[(mI a w).toNat]?=some c/\ct c.1 w=true:=by unfold mI wP at *;cases hf:a.findIdx? (λc=>ct c.1 w)with|none=>(rw[hf]at b;exact absurd b (by decide))|some f=>obtain⟨d,e,-⟩:=aR.1 hf;exact⟨a[f],af d,e⟩
theorem JW{cy:Δ bU}:∀(e seen:Δ Nm),(∀n∈seen,0<=mI cy n.1)->(match fX cy e (seen.map λn=>(mI cy n.1).toNat)with|.inl g=>gV cy seen e=g/\g.1≠0|.inr _=>gV cy seen e=(0,0))
 |[],_,_=>rfl
 |n::e,seen,hs=>by
   unfold fX gV;by_cases d:mI cy n.1<0
   . rw[aN d]
     rw[DT]at d;rw[d];exact⟨rfl,by simp⟩
   . have m:cy.any (λc=>ct c.1 n.1)=true:=by
      have:=d;rw[DT]at this;simpa using this
     rw[aH d,m,aN rfl];have v:(seen.map λn=>(mI cy n.1).toNat).contains (mI cy n.1).toNat=seen.any λa=>ct a.1 n.1:=by
      rw[jt,mG,cP,kM];constructor
      . rintro⟨a,b,f⟩
        have⟨c,i,o⟩:=Xd (hs a b);have⟨w,r,s⟩:=Xd (show 0<=mI cy n.1 by omega);rw[f,r]at i
        cases i
        exact⟨a,b,by rw[<- cD.1 o,<- cD.1 s];exact cD.2 rfl⟩
      . rintro⟨a,b,f⟩
        exact⟨a,b,by rw[cD.1 f]⟩
     rw[v]
     cases hb:seen.any λa=>ct a.1 n.1 with
     |true=>exact⟨rfl,by simp⟩
     |false=>
       have j:=JW e (seen++[n]) λa b=>(bA.1 b).elim (hs a) λl=>by rw[bj.1 l];omega
       rw[cT]at j;exact j
section
variable {st:vT} {ts:Δ gP} {gs:Δ iz} {A:(Δ gP×Δ iz)×Nat×Nat} {c:Bp}
def AQ(r:(Nat×Nat)×vT)(A:(Δ gP×Δ iz)×Nat×Nat):Prop:=r.1=A.2/\Dd r.2 A.1.1 A.1.2
theorem Dd.create(S:Dd st ts gs)(e:Nl ts gs){t:Nm}{a:Δ (Nm×Nat)}(d:Value):AQ (qy st t a) (tf ts gs t a d):=by have b:=JT a [];simp only[List.map_nil,List.nil_append]at b;unfold AQ qy tf;rw[b,S.awv];cases hf:ts.findIdx? (λg=>ct g.aI t.1)with|some k=>(obtain⟨-,i,-,-,f,-⟩:=S.ED e.bJ hf;rw[f];exact⟨rfl,S⟩)|none=>rw[S.AP hf];simp only[Option.isSome_none,Bool.false_eq_true,if_false];cases ru [] (a.map Prod.fst)with|some q=>exact⟨rfl,S⟩|none=>simp only[List.length_map];split;{exact⟨rfl,S⟩};refine⟨rfl,?_,S.Da,S.usr⟩;show((o7 st.tabs (tk t.1) _).map tOf).Perm _;unfold o7;rw[xN (S.AP hf)];refine((Bm _ _).map tOf).trans ?_;rw[jN,cT];exact((S.tabs.cons _).trans (mE _ _).symm)
theorem Dd.drop(S:Dd st ts gs)(l:Nl ts gs){t:Nm}(r:t.1.size<=8):AQ (EC st t) (DR ts gs t):=by
 unfold AQ EC DR;cases hf:ts.findIdx? (λf=>ct f.aI t.1)with
 |none=>rw[S.AP hf];exact⟨rfl,S⟩
 |some k=>
  obtain⟨-,v,-,-,s,-⟩:=S.ED l.bJ hf;rw[s];refine⟨rfl,?_,?_,λa g=>S.usr a (fU.1 g).1⟩
  .show((o6 st.tabs (tk t.1)).map tOf).Perm ((ts.eraseIdx k).map ZD);rw[erase_filter hf (RB l.bJ)];have b:=S.tabs.filter λe=>!e.1.sameKey (tk t.1);rw[gL,gL]at b;have i:((λe:Lit×Δ bU×Nat=>!e.1.sameKey (tk t.1)) ∘ ZD)=λf:gP=>!ct f.aI t.1:=funext λf=>by show(!(tk f.aI).sameKey (tk t.1))=_;rw[W8]
   rw[i]at b;exact b
  show((st.Da.filter _).map Prod.fst).Perm ((gs.filter λa=>!ct a.tj t.1).map Dc);have b:=S.Da.filter λe=>!@decide (∃u:Γ,u.size<=8/\e=gk u t.1) (Classical.propDecidable _);rw[gL,gL]at b;have i:gs.filter ((λe=>!@decide (∃u:Γ,u.size<=8/\e=gk u t.1) (Classical.propDecidable _)) ∘ Dc)=gs.filter λa=>!ct a.tj t.1:=rZ λa g=>by
   have j:(∃u:Γ,u.size<=8/\Dc a=gk u t.1)↔ct a.tj t.1=true:=⟨λ⟨u,d,o⟩=>by rw[(Ol (S.usr a g) ⟨d,r⟩ o).2];exact cD.2 rfl,λd=>⟨a.uz,(S.usr a g).1,by show gk a.uz a.tj=_;rw[cD.1 d]⟩⟩;show(!@decide (∃u:Γ,u.size<=8/\Dc a=gk u t.1) (Classical.propDecidable _))=!ct a.tj t.1
   cases d:ct a.tj t.1 with
   |true=>rw[@cJ _ (Classical.propDecidable _) (j.2 d)]
   |false=>rw[@aV _ (Classical.propDecidable _) (λm=>by rw[j.1 m]at d;cases d)]
  rw[i]at b;exact b
theorem Dd.load(S:Dd st ts gs)(f:Nl ts gs){t:Nm}{ry:Δ oE}(j:∀s∈ry,uy s)(r:Value):AQ (AK st t ry) (BX ts gs t ry r):=by
 unfold AQ AK BX;cases hf:ts.findIdx? (λb=>ct b.aI t.1)with
 |none=>rw[S.AP hf];exact⟨rfl,S⟩
 |some k=>
  have⟨b,v,m,i,l,g,d⟩:=S.ED f.bJ hf;rw[l];simp only[m];rw[JV ry j,g,d];cases ry.findSome? (lU b.cy)with
  |some q=>exact⟨rfl,S⟩
  |none=>
   dsimp only;split;{exact⟨rfl,S⟩}
   refine⟨rfl,?_,S.Da,S.usr⟩;rw[WZ hf (RB f.bJ)];have e:=S.tabs.map λa=>if a.1.sameKey (tk t.1)then(a.1,b.cy,Λ b.ry+Λ ry)else a
   rw[iL,iL]at e;show((wL st.tabs (tk t.1) _).map tOf).Perm _;unfold wL;rw[iL,iL];refine(zy (fT λa _=>?_)).trans (e.trans (zy (fT λa _=>?_)))
   .show tOf (if _ then _ else _)=if a.1.sameKey (tk t.1)then _ else _
    split;{show(_,_,_)=_;simp[tOf,d]};rfl
   show(if(tk a.aI).sameKey (tk t.1)then _ else _)=ZD (if _ then _ else _);rw[W8];split;{rename_i o;simp[ZD,cD.1 o,cD.1 i]};rfl
theorem Dd.pO(S:Dd st ts gs)(j:Nl ts gs){u t:Nm}(g:Sz8 u.1 t.1):AQ (uE st u t) (ux ts gs u t):=by
 have b:=S.Xb g;unfold AQ uE ux;cases hf:gs.findIdx? (λa=>ct a.uz u.1&&ct a.tj t.1)with
 |none=>rw[hf]at b;rw[b];exact⟨rfl,S⟩
 |some k=>
  rw[hf]at b;rw[b];refine⟨rfl,S.tabs,?_,λa e=>S.usr a ((sy _ _).subset e)⟩;show((o6 st.Da (gk u.1 t.1)).map Prod.fst).Perm ((gs.eraseIdx k).map Dc);rw[erase_filter hf (Xc j.keys)];have d:=S.Da.filter λf=>!f.sameKey (gk u.1 t.1);rw[gL,gL]at d;have i:gs.filter ((λf:Lit=>!f.sameKey (gk u.1 t.1)) ∘ Dc)=gs.filter λa=>!(ct a.uz u.1&&ct a.tj t.1):=rZ λa e=>by show(!(gk a.uz a.tj).sameKey _)=_;rw[Xa (S.usr a e) g]
  rw[i]at d;exact d
theorem Dd.qM(S:Dd st ts gs)(B:Nl ts gs){a:rF}{l:Δ Nm}{e:Ex}{f:Nat}(s:Sz8 a.uz.1 a.tj.1)(L:Δ cz)(E:Value):AQ (vm st a.uz a.tj l e f) (Il ts gs a l e f L E):=by
 have i:=S.Xb s;unfold AQ vm Il;cases hf:ts.findIdx? (λj=>ct j.aI a.tj.1)with
 |none=>rw[S.AP hf];exact⟨rfl,S⟩
 |some k=>
  obtain⟨t,P,I,-,H,F,-⟩:=S.ED B.bJ hf;rw[H];simp only[I];rw[F];have b:=JW (cy:=t.cy) l [] λ_ g=>(by cases g);rw[rY]at b;cases hs:fX t.cy l []with
  |inl q=>rw[hs]at b;dsimp only at b ⊢;rw[b.1,aN b.2];exact⟨rfl,S⟩
  |inr O=>
   rw[hs]at b;dsimp only at b ⊢;rw[b,aH (show¬((0,0):Nat×Nat).1≠0 by simp)];cases hk:dp t.cy e with
   |inr q=>rw[show oV t.cy e f=q by unfold oV;rw[hk],aN (kG hk)];exact⟨rfl,S⟩
   |inl K=>
    dsimp only;by_cases m:K=2
    .rw[show oV t.cy e f=(0,0)by unfold oV;rw[hk];simp[m],aH (λg=>g m),aH (show¬((0,0):Nat×Nat).1≠0 by simp),S.aww];cases hj:gs.findIdx? (λd=>ct d.uz a.uz.1&&ct d.tj a.tj.1)with
     |none=>rw[hj]at i;have r:fH st.Da (gk a.uz.1 a.tj.1)=none:=(by simpa using i);rw[r];simp only[Option.isNone_none,true_and];split;{exact⟨rfl,S⟩};refine⟨rfl,S.tabs,?_,λd b=>(bA.1 b).elim (S.usr d) λe=>by rw[bj.1 e];exact s⟩;show((o7 st.Da (gk a.uz.1 a.tj.1) _).map Prod.fst).Perm _;unfold o7;rw[xN r,cT];exact((Bm _ _).map Prod.fst).trans ((S.Da.cons _).trans (mE _ _).symm)
     |some v=>
      rw[hj]at i;obtain⟨C,x,-⟩:=aR.1 hj;have r:(fH st.Da (gk a.uz.1 a.tj.1)).isNone=false:=by cases o:fH st.Da (gk a.uz.1 a.tj.1)with|none=>rw[o]at i;cases i|some _=>rfl
      rw[r,aH (show¬(false=true/\8<=Λ gs) fromλg=>Bool.noConfusion g.1)];refine⟨rfl,S.tabs,?_,λd b=>?_⟩
      .show((o7 st.Da (gk a.uz.1 a.tj.1) _).map Prod.fst).Perm ((gs.set v _).map Dc);unfold o7;have w:=S.Da.filter λj=>!j.sameKey (gk a.uz.1 a.tj.1);rw[gL,gL]at w;have G:gs.filter ((λj:Lit=>!j.sameKey (gk a.uz.1 a.tj.1)) ∘ Dc)=gs.filter λd=>!(ct d.uz a.uz.1&&ct d.tj a.tj.1):=rZ λd b=>by show(!(gk d.uz d.tj).sameKey _)=_;rw[Xa (S.usr d b) s]
       rw[G,<- erase_filter hj (Xc B.keys)]at w;have y:Dc gs[v]=gk a.uz.1 a.tj.1:=(by simp only[Bool.and_eq_true]at x;unfold Dc;rw[cD.1 x.1,cD.1 x.2])
       refine((Bm _ _).map Prod.fst).trans ((w.cons _).trans ?_);have z:=(JR C).map Dc;rw[jN,y]at z;refine z.trans (zy ?_);rw[yZ];show _=(gs.map Dc).set v (gk a.uz.1 a.tj.1);rw[<- y];exact(List.ext_getElem (by simp) λD M N=>by
        by_cases o:v=D
        . subst o;simp
        . simp[o])
      rcases iW b with g|rfl;{exact S.usr d g};exact s
    rw[show oV t.cy e f=(7,f)by unfold oV;rw[hk];simp[m],aN m,aN (show((7,f):Nat×Nat).1≠0 by simp)];exact⟨rfl,S⟩
theorem Dd.apply(S:Dd st ts gs)(d:Nl ts gs)(b:Fc c)(a:IC ts gs A c):AQ (wM st c) A:=by cases c with|create t f=>(obtain⟨e,rfl⟩:=a;exact S.create d e)|drop t=>cases a;exact S.drop d b.1|load t ry=>(obtain⟨g,rfl⟩:=a;exact S.load d b.2.2.1 g)|qM u t f j l=>(obtain⟨o,i,e,rfl,rfl,rfl⟩:=a;exact S.qM d ⟨b.1.1,b.2.1.1⟩ i e)|pO u t=>cases a;exact S.pO d ⟨b.1.1,b.2.1⟩|query m=>exact a.elim
theorem Dd.do{a:af8}{u S:Γ}{bz:Nat}(e:Dd st ts gs)(r:Nl ts gs)(b:Mh u S ts gs a):Dd (Kr bz st u S).2 a.1.1 a.1.2/\(xh S=false->(Kr bz st u S).1.1=[]/\a.2.1=⟨#[]⟩/\a.2.2.1=(Kr bz st u S).1.2.1/\a.2.2.2=(Kr bz st u S).1.2.2):=by unfold Mh at b;unfold Kr;by_cases i:300<S.size;{rw[show lG S=.inr (1,0)from aN i]at b;subst b;rw[aN i];exact⟨e,λ_=>⟨rfl,rfl,rfl,rfl⟩⟩};rw[aH i];cases hr:lG S with|inr q=>rw[hr]at b;subst b;exact⟨e,λ_=>⟨rfl,rfl,rfl,rfl⟩⟩|inl c=>have d:(if xh S then a.1=(ts,gs)else if ct u sB then∃A,IC ts gs A c/\a=(A.1,(⟨#[]⟩:Γ),(A.2.1:Int),(A.2.2:Int))else a=((ts,gs),(⟨#[]⟩:Γ),(4:Int),(0:Int))):=(by rw[hr]at b;exact b);have o:=IB hr;cases c with|query s=>(have g:xh S=true:=(by unfold xh;rw[hr]);rw[g,aN rfl]at d;refine⟨?_,λf=>by rw[g]at f;cases f⟩;rw[d];exact e)|_=>have g:xh S=false:=(by unfold xh;rw[hr]);rw[g,aH (by decide)]at d;dsimp only;rw[show rP=sB from rfl];cases hu:ct u sB with|false=>(rw[hu,aH (by decide)]at d;cases d;exact⟨e,λ_=>⟨rfl,rfl,rfl,rfl⟩⟩)|true=>rw[hu,aN rfl]at d;obtain⟨A,m,rfl⟩:=d;have⟨l,f⟩:=e.apply r o m;exact⟨f,λ_=>⟨rfl,rfl,bI (λj:Nat×Nat=>(j.1:Int)) l.symm,bI (λj:Nat×Nat=>(j.2:Int)) l.symm⟩⟩
end
end
end
section
open Go.World renaming cell?→Ξ
open Go.RowKit
open _root_.Go.Proofs.Tryz
open Option renaming some→σ
open Go.IntKind renaming i64→κ
open Go.Obj renaming cells→ξ
open Go renaming World→ω,Value→υ
open Go.Value renaming int→ι,string→θ
variable{m:υ}{x:Nat}
section
open Go.Maps
structure FJ where
 o:zr
 p:Nat
 q:Nat
 bz:Nat
 M:Nat->Prop
 st:vT
 ts:Δ gP
 gs:Δ iz
def FJ.W(s:FJ)(w:ω)(b:Nat):Prop:=s.M b\/Aa w s.q b
structure FK (w:ω)(X:Nat->Prop)(lo:Nat)(s:FJ):Prop where
 one:One s.o w s.p X s.M s.st
 doc:lC X w s.q s.ts s.gs s.bz
 ap:∀b,s.M b->¬Aa w s.q b
 lo:∀b,s.W w b->lo<=b
structure EG (w:ω)(X:Nat->Prop)(lo:Nat)(s t:FJ):Prop where
 a:FK w X lo s
 b:FK w X lo t
 ap:∀b,s.W w b->¬t.W w b
 le:lo<=w.heap.size
structure o9 (N X X':Nat->Prop)(w w':ω):Prop where
 keep:bu (λb=>b<w.heap.size/\¬N b) w w'
 sub:∀b,N b->X b
 sup:∀b,X b->X' b
 more:∀b,X' b->X b\/w.heap.size<=b
 lt:∀b,X' b->b<w'.heap.size
section
variable {w w':ω} {X X' N:Nat->Prop} {lo p bz:Nat} {s t:FJ} {ts:Δ gP} {gs:Δ iz} {o:zr} {M:Nat->Prop} {st:vT}
theorem o9.one(k:o9 N X X' w w')(b:One o w p X M st)(g:∀a,M a->¬N a):One o w' p X' M st:=b.stays k.keep.size (λa e f=>k.keep.block a ⟨e,λd=>f (k.sub a d)⟩) (λa c=>k.keep.block a ⟨b.pZ a (b.sub a c),g a c⟩) k.sup k.more k.lt
theorem o9.doc(k:o9 N X X' w w')(d:lC X w p ts gs bz)(x:∀a,Aa w p a->¬N a):lC X' w' p ts gs bz/\∀a,Aa w' p a->Aa w p a:=by have⟨A,m,f,n,v,i,j⟩:=d.cell;have g:∀a,Aa w p a->w'.heap[a]?=w.heap[a]?:=λa e=>k.keep.block a ⟨d.Wm a (d.abR e),x a e⟩;have l:=g p (.inl rfl);refine⟨⟨⟨A,m,l.trans f,vh n λc b=>g c (.inr ⟨_,_,_,f,.inl b⟩),vh v λc b=>g c (.inr ⟨_,_,_,f,.inr b⟩),λc b=>⟨k.sup c (i c b).1,(i c b).2⟩,λc b=>⟨k.sup c (j c b).1,(j c b).2⟩⟩,k.sup p d.xp,λB y=>d.held B ?_,d.len,d.inv,k.lt⟩,λa e=>Ba l e⟩;have z:bu (Out X w) w w':=k.keep.mono λa e=>⟨e.1,λb=>e.2 (k.sub a b)⟩;exact uG z k.more y
theorem o9.side(k:o9 N X X' w w')(c:FK w X lo s)(e:∀a,s.W w a->¬N a):FK w' X' lo s/\∀a,s.W w' a->s.W w a:=by have⟨f,d⟩:=k.doc c.doc λa b=>e a (.inr b);exact⟨⟨k.one c.one λa b=>e a (.inl b),f,λa b g=>c.ap a b (d a g),λa b=>c.lo a (b.imp id (d a))⟩,λa b=>b.imp id (d a)⟩
theorem FK.pZ(a:FK w X lo s)(c:s.W w x):X x:=c.elim (a.one.sub x) (λb=>a.doc.abR b)
theorem EG.swap(a:EG w X lo s t):EG w X lo t s:=⟨a.b,a.a,λb c d=>a.ap b d c,a.le⟩
theorem o9.low(k:o9 N X X' w w')(c:∀a,N a->lo<=a)(e:lo<=w.heap.size):Below lo w w':=⟨k.keep.os,k.keep.tape,k.keep.output,k.keep.size,λa d=>k.keep.block a ⟨aw d e,λb=>by have:=c a b;omega⟩⟩
theorem EG.aU(a:EG w X lo s t)(c:Below w.heap.size w w'):EG w' X lo s t/\∀k,w.heap.size<=k->¬s.W w' k/\¬t.W w' k:=by have k:o9 (λ_=>False) X X w w':=⟨⟨c.os,c.tape,c.output,c.size,λb a=>c.block b a.1⟩,λ_ a=>a.elim,λ_=>id,λ_=>.inl,λb m=>aw (a.a.one.pZ b m) c.size⟩;have⟨g,e⟩:=k.side a.a λ_ _=>id;have⟨i,f⟩:=k.side a.b λ_ _=>id;exact⟨⟨g,i,λb j l=>a.ap b (e b j) (f b l),ay a.le c.size⟩,λk n=>⟨λd=>by have:=a.a.one.pZ k (a.a.pZ (e k d));omega,λd=>by have:=a.b.one.pZ k (a.b.pZ (f k d));omega⟩⟩
theorem EG.Kr{f:Nat->Prop}{g:vT}(b:EG w X lo s t)(e:Di s.o w w' s.p X s.M X' f g):EG w' X' lo { s with M:=f,st:=g } t/\Below lo w w'/\∀k,k<w.heap.size->¬s.W w k->w'.heap[k]?=w.heap[k]?/\¬({ s with M:=f,st:=g }:FJ).W w' k:=by have k:o9 s.M X X' w w':=⟨e.keep,b.a.one.sub,e.more,e.grows,e.one.pZ⟩;have⟨z,i⟩:=k.doc b.a.doc λa d l=>b.a.ap a l d;have⟨A,m⟩:=k.side b.b λa d l=>b.ap a (.inl l) d;have B:∀a,Aa w s.q a->a<w.heap.size:=λa d=>b.a.doc.Wm a (b.a.doc.abR d);have j:∀a,({ s with M:=f,st:=g }:FJ).W w' a->s.W w a\/w.heap.size<=a:=λa d=>d.elim (λc=>(e.Ow a c).imp .inl id) (λc=>.inl (.inr (i a c)));refine⟨⟨⟨e.one,z,λa d v=>?_,λa d=>(j a d).elim (b.a.lo a) (ay b.le)⟩,A,λa D x=>?_,ay b.le e.keep.size⟩,k.low (λa d=>b.a.lo a (.inl d)) b.le,λy C n=>⟨k.keep.block y ⟨C,λc=>n (.inl c)⟩,λc=>(j y c).elim n λc=>by omega⟩⟩;{rcases e.Ow a d with c|c;{exact b.a.ap a c (i a v)};have:=B a (i a v);omega};rcases j a D with c|c;{exact b.ap a c (m a x)};have:=b.b.one.pZ a (b.b.pZ (m a x));omega
theorem EG.doD{g:Δ gP}{f:Δ iz}(b:EG w X lo s t)(l:lC X' w' s.q g f s.bz)(e:Moved X X' w w' s.q):EG w' X' lo { s with ts:=g,gs:=f } t/\Below lo w w'/\∀k,k<w.heap.size->¬s.W w k->w'.heap[k]?=w.heap[k]?:=by have k:o9 (Aa w s.q) X X' w w':=⟨e.keeps,λa c=>b.a.doc.abR c,e.sup,e.more,l.Wm⟩;have⟨n,i⟩:=k.side b.b λa c x=>b.ap a (.inr x) c;have j:∀a,({ s with ts:=g,gs:=f }:FJ).W w' a->s.W w a\/w.heap.size<=a:=λa c=>c.elim (λd=>.inl (.inl d)) (λd=>(e.own a d).imp .inr id);refine⟨⟨⟨k.one b.a.one b.a.ap,l,λa c z=>?_,λa c=>(j a c).elim (b.a.lo a) (ay b.le)⟩,n,λa A m=>?_,ay b.le e.keeps.size⟩,k.low (λa c=>b.a.lo a (.inr c)) b.le,λB v y=>k.keep.block B ⟨v,λd=>y (.inr d)⟩⟩;{rcases e.own a z with d|d;{exact b.a.ap a c d};have:=b.a.one.pZ a (b.a.one.sub a c);omega};rcases j a A with d|d;{exact b.ap a d (i a m)};have:=b.b.one.pZ a (b.b.pZ (i a m));omega
end
abbrev OpS:=Int×Γ×Γ
def opL(x:OpS):Δ υ:=[ι κ x.1,θ x.2.1,θ x.2.2]
structure MW where
 seg:Int
 pk:Int
 wd:Int
 prune:Bool
 push:Bool
 bz:Int
def MW.val(f:MW):υ:=.agg #[ι κ f.seg,ι κ f.pk,ι κ f.wd,.bool f.prune,.bool f.push,ι κ f.bz]
structure OnQ (w0 w:ω)(X:Nat->Prop)(s t:FJ):Prop where
 two:EG w X w0.heap.size s t
 sa:Dd s.st s.ts s.gs
 sb:Dd t.st t.ts t.gs
 lo:Below w0.heap.size w0 w
theorem OnQ.swap{w0 w:ω}{X:Nat->Prop}{s t:FJ}(a:OnQ w0 w X s t):OnQ w0 w X t s:=⟨a.two.swap,a.sb,a.sa,a.lo⟩
theorem OnQ.aU{w0 w w':ω}{X:Nat->Prop}{s t:FJ}(a:OnQ w0 w X s t)(b:Below w.heap.size w w'):OnQ w0 w' X s t/\∀k,w.heap.size<=k->¬s.W w' k/\¬t.W w' k:=⟨⟨(a.two.aU b).1,a.sa,a.sb,a.lo.trans (b.mono a.lo.size)⟩,(a.two.aU b).2⟩
structure aee (w0 w:ω)(X:Nat->Prop)(s t:FJ)(st:vT)(k:Nat)(ob:Obj):Prop where
 two:EG w X w0.heap.size s t
 sa:Dd st s.ts s.gs
 sb:Dd t.st t.ts t.gs
 lo:Below w0.heap.size w0 w
 box:w.heap[k]?=σ ob/\¬s.W w k
section
variable {w0 w w1 w2:ω} {X X1 M1:Nat->Prop} {s t:FJ} {k:Nat} {ob:Obj} {u S:Γ} {st:vT} {r:Ending}
theorem OnQ.half(a:OnQ w0 w X s t)(i:Di s.o w w1 s.p X s.M X1 M1 st)(b:w.heap[k]?=σ ob)(j:¬s.W w k):aee w0 w1 X1 { s with M:=M1,st:=st } t s.st k ob:=by have⟨c,d,e⟩:=a.two.Kr i;have⟨f,g⟩:=e k (aA b) j;exact⟨c,a.sa,a.sb,a.lo.trans d,f.trans b,g⟩
theorem aee.full(b:aee w0 w1 X s t st k ob)(n:s.st=(Kr s.o.bz st u S).2)(j:aio X w1 s.q s.bz u S s.ts s.gs r w2):∃(a:af8) (c:Nat->Prop),r=.returned (.tuple #[θ a.2.1,ι κ a.2.2.1,ι κ a.2.2.2])/\OnQ w0 w2 c { s with ts:=a.1.1,gs:=a.1.2 } t/\(xh S=false->(Kr s.o.bz st u S).1.1=[]/\a.2.1=⟨#[]⟩/\a.2.2.1=(Kr s.o.bz st u S).1.2.1/\a.2.2.2=(Kr s.o.bz st u S).1.2.2)/\w2.heap[k]?=σ ob:=by have⟨a,x,l,c,m,v⟩:=j;have⟨d,e,f⟩:=b.two.doD m v;have⟨g,i⟩:=b.sa.do (bz:=s.o.bz) b.two.a.doc.inv l;exact⟨a,c,x,⟨d,by show Dd s.st _ _;rw[n];exact g,b.sb,b.lo.trans e⟩,i,(f k (aA b.box.1) b.box.2).trans b.box.1⟩
end
theorem R5{w:ω}{q bz:Nat}{X:Nat->Prop}(e:w.heap[q]?=σ (ξ #[.slice none 0 0,.slice none 0 0,ι κ bz] 100 (0,0)))(d:bz<=4096)(i:X q)(f:∀b,X b->b<w.heap.size):lC X w q [] [] bz/\∀b,Aa w q b->b=q:=
 ⟨⟨⟨_,_,e,eM _ _ _ _,eM _ _ _ _,λg a=>(by cases a),λg a=>(by cases a)⟩,i,λ_ _=>⟨λ_ c=>(by cases c),λ_ c=>(by cases c)⟩,⟨by decide,by decide,d⟩,⟨λ_ c=>(by cases c),.nil,.nil⟩,f⟩,λb d=>(TS e d).elim id λa=>(by rcases a with a|a<;>cases a)⟩
theorem Xn(a:Int):Ka a<=4096:=by unfold Ka;split;omega;split<;>omega
theorem R6{w:ω}{a b:MW}{v:Δ OpS}(hg:Ci w)(hs:aS w 3 m v.length (v.flatMap opL))(hl:v.length<=9000000000000000000)(hu:∀d∈v,d.2.1.size<=maxLen) :
 Calls prog 12 #[a.val,b.val,m,ι κ 0,ι κ 0] w λr w'=>r=.returned (ι κ (-1))/\Below w.heap.size w w':=by
 obtain⟨va,eH,rfl⟩:=aS.slice hs;have⟨L,I,O,K,push,bz⟩:=a;have⟨x,B,E,D,F,l⟩:=b;unfold MW.val;simp only;have⟨W,Z⟩:=nm ((w.alloc (ξ #[ι κ L,ι κ I,ι κ O,.bool K,.bool push,ι κ bz] 23)).alloc (ξ #[ι κ x,ι κ B,ι κ E,.bool D,.bool F,ι κ l] 23));have pS:=zS Z;have mL:W.heap[w.heap.size]?=σ (ξ #[ι κ L,ι κ I,ι κ O,.bool K,.bool push,ι κ bz] 23 (0,0)):=by rw[Z];exact heap_alloc2_old w _ _
 have j6:W.heap[w.heap.size+1]?=σ (ξ #[ι κ x,ι κ B,ι κ E,.bool D,.bool F,ι κ l] 23 (0,0)):=by rw[Z];exact heap_alloc2_new w _ _
 have HF:=ak (λwr (g:Below W.heap.size W wr)=>(show(Ξ wr (Ad (w.heap.size+1) 0)=σ (ι κ x)/\Ξ wr (Ad (w.heap.size+1) 1)=σ (ι κ B)/\Ξ wr (Ad (w.heap.size+1) 2)=σ (ι κ E)/\Ξ wr (Ad (w.heap.size+1) 3)=σ (.bool D)/\Ξ wr (Ad (w.heap.size+1) 4)=σ (.bool F)/\Ξ wr (Ad (w.heap.size+1) 5)=σ (ι κ l))/\Ξ wr (Ad w.heap.size 5)=σ (ι κ bz)/\w.heap.size<wr.heap.size/\w.heap.size+1<wr.heap.size from by
  have f:=(g.block _ (aA mL)).trans mL;have e:=(g.block _ (aA j6)).trans j6;exact⟨⟨bB e 0,bB e 1,bB e 2,bB e 3,bB e 4,bB e 5⟩,bB f 5,aA f,aA e⟩))
 have HO:=(λX=>Gn L I O bz K push X);have LG:=(λX=>Gn x B E l D F X);have z:=ak hg;go_in;go_wp21;rw[<- Z];refine(HO W).mono ?_;rintro r w1 ⟨rfl,cI⟩;have a5:=(Xm L I O bz K push w1 (X0:=λ_=>False) (λb g=>g.elim));go_wp21;refine a5.mono ?_;rintro r w2 ⟨p,X1,M1,rfl,y,-,SG,ad,cW⟩;have fM:=(cI.trans (cW.mono cI.size));have am:=(And.intro y (And.intro SG ad));obtain⟨⟨e0,e1,e2,e3,e4,e5⟩,-,-,BT⟩:=HF.J w2 fM;go_wp21;refine(LG w2).mono ?_;rintro r w3 ⟨rfl,Y⟩;have r7:=(fM.trans (Y.mono fM.size));have bd:∀b,X1 b->b<w3.heap.size:=λb g=>aw (am.1.pZ b g) Y.size;have a6:=(Xm x B E l D F w3 (X0:=X1) bd);go_wp21;refine a6.mono ?_;rintro r w4 ⟨p2,H,M2,rfl,y,ag,Ku,aa,qP⟩;have PL:=(r7.trans (qP.mono r7.size));have a7:=(And.intro y (And.intro ag (And.intro Ku aa)));obtain⟨-,e5,bt,-⟩:=HF.J w4 PL;have aT:=(Kc bz w4);go_wp21;refine aT.mono ?_;rintro r w5 ⟨q,rfl,i,P,A7⟩;have TI:=(PL.trans (A7.mono PL.size));have a8:=(And.intro i P);obtain⟨⟨-,-,-,-,-,f5⟩,-,-,bv⟩:=HF.J w5 TI;have a0:=(Kc l w5);go_wp21;refine a0.mono ?_;rintro r w6 ⟨n,rfl,i,P,sj⟩;have Gy:=(TI.trans (sj.mono TI.size));have PB:=(And.intro i P);have lj:Hid (∃X,OnQ w w6 X ⟨MQ L I O bz K push,p,q,Ka bz,M1,⟨[],[]⟩,[],[]⟩ ⟨MQ x B E l D F,p2,n,Ka l,M2,⟨[],[]⟩,[],[]⟩):=ak (by
  have z1:=pS.size;have z2:=cI.size;have z3:=Y.size;have z4:=qP.size;have z5:=A7.size;have z6:=sj.size;have z7:=r7.size;have⟨y,SG,ad⟩:=am;have⟨T,ag,Ku,aa⟩:=a7;have⟨i,P⟩:=a8;have⟨FP,Y6⟩:=PB;have bl:=aA i;have ba:=aA FP;have U:=A7.trans (sj.mono z5);have ab:=Y.trans ((qP.mono z3).trans (U.mono (by omega)));have V:∀b,M1 b->b<w2.heap.size:=λb g=>y.pZ b (y.sub b g);have g2:∀b,M2 b->b<w4.heap.size:=λb g=>T.pZ b (T.sub b g);have C:∀b,(H b\/b=q\/b=n)->b<w6.heap.size:=λb g=>by
   rcases g with g|rfl|rfl
   . have:=T.pZ b g;omega
   . omega
   . exact ba
  have bb:=y.stays (X':=λb=>H b\/b=q\/b=n) ab.size (λb c _=>ab.block b c) (λb c=>ab.block b (V b c)) (λb c=>.inl (ag b c)) (λb c=>by
   rcases c with c|rfl|rfl
   . exact(Ku b c).imp id λap=>by omega
   . exact .inr (by omega)
   . exact .inr (by omega)) C
  have bc:=T.stays (X':=λb=>H b\/b=q\/b=n) U.size (λb c _=>U.block b c) (λb c=>U.block b (g2 b c)) (λb c=>.inl c) (λb c=>by
   rcases c with c|rfl|rfl
   . exact .inl c
   . exact .inr P
   . exact .inr (by omega)) C
  have⟨d1,o1⟩:=R5 (X:=λb=>H b\/b=q\/b=n) ((sj.block q bl).trans i) (Xn bz) (.inr (.inl rfl)) C;have⟨d2,o2⟩:=R5 (X:=λb=>H b\/b=q\/b=n) FP (Xn l) (.inr (.inr rfl)) C;refine⟨λb=>H b\/b=q\/b=n,⟨⟨bb,d1,λb f e=>?_,λb c=>?_⟩,⟨bc,d2,λb f e=>?_,λb c=>?_⟩,λb f e=>?_,by omega⟩,⟨.refl _,.refl _,λ_ c=>(by cases c)⟩,⟨.refl _,.refl _,λ_ c=>(by cases c)⟩,pS.trans (Gy.mono z1)⟩
  . have:=V b f;have:=o1 b e;omega
  . rcases c with c|c
    . have:=ad b c;omega
    . have:=o1 b c;omega
  . have:=g2 b f;have:=o2 b e;omega
  . rcases c with c|c
    . have:=aa b c;omega
    . have:=o2 b c;omega
  . rcases f with f|f<;>rcases e with e|e
    . have:=V b f;have:=aa b e;omega
    . have:=V b f;have:=o2 b e;omega
    . have:=o1 b f;have:=g2 b e;omega
    . have:=o1 b f;have:=o2 b e;omega)
 have bo:=z;go_wp2;go_loopw[15] (λac wr=>∃(j:Nat) (X Ma Mb:Nat->Prop) (sa sb:vT) (ta tb:Δ gP) (ga gb:Δ iz),j<=v.length/\ac=ι κ j/\Hid (OnQ w wr X ⟨MQ L I O bz K push,p,q,Ka bz,Ma,sa,ta,ga⟩ ⟨MQ x B E l D F,p2,n,Ka l,Mb,sb,tb,gb⟩)) (λac _=>v.length - (intOf ac).toNat);(case atStart=>have⟨X,c⟩:=lj.J;exact⟨0,X,M1,M2,_,_,_,_,_,_,aB _,rfl,ak c⟩);case round=>
  obtain⟨j,X,Ma,Mb,sa,sb,ta,tb,ga,gb,hi,rfl,HL⟩:=hrel;by_cases C:j<v.length
  .have gY:=aX.2 C;have⟨d,Q⟩:=l9 C;obtain⟨vg,vo,MO,he,-,bH,hx⟩:=aS.at (aS.aU hs HL.J.lo (ae _)) (by omega);cases he;have c0:Ξ wr (Ad vg (vo+j*3))=σ (ι κ d.1):=hx _ _ ((cV opL 3 (λ_=>rfl) _ Q (j:=0) (by decide)).trans rfl);have c1:Ξ wr (Ad vg (vo+j*3+1))=σ (θ d.2.1):=hx _ _ ((cV opL 3 (λ_=>rfl) _ Q (j:=1) (by decide)).trans rfl);have c2:Ξ wr (Ad vg (vo+j*3+2))=σ (θ d.2.2):=hx _ _ ((cV opL 3 (λ_=>rfl) _ Q (j:=2) (by decide)).trans rfl);have an:=(hu d (aq Q));have⟨a9,hY⟩:=nm (wr.alloc (ξ #[ι κ d.1,θ d.2.1,θ d.2.2] 57));have be:=Br hY;have A:=(HL.J.aU be);have ax:=z.J.on (A.1.lo.mono z.J.size);have bi:a9.heap[wr.heap.size]?=σ (ξ #[ι κ d.1,θ d.2.1,θ d.2.2] 57 (0,0)):=(by rw[hY];exact az _ _);have a1:=(aec A.1.two.a.one ax an (text:=d.2.2));have a2:=(aec A.1.two.b.one ax an (text:=d.2.2));go_wp21;all_goals
    rw[<- hY];first
     | ((with_reducible refine dM a1 ?_);have HQ:=ak A.1;have al:=ak (A.2 _ (ae _)).1)
     | ((with_reducible refine dM a2 ?_);have HQ:=ak A.1.swap;have al:=ak (A.2 _ (ae _)).2)
    rintro r w7 ⟨rfl,-,X7,M7,hG⟩;have G:=(HQ.J.half hG bi al.J);have ar:=z.J.on (G.lo.mono z.J.size);have a3:=(aga G.two.a.doc ar.laid (aw (by decide) ar.size) d.2.1 d.2.2);have k1:Ξ w7 (Ad wr.heap.size 1)=σ (θ d.2.1):=bB G.box.1 1;have k2:Ξ w7 (Ad wr.heap.size 2)=σ (θ d.2.2):=bB G.box.1 2;have kl:=aA G.box.1;unfold doV;go_wp21;refine a3.mono ?_;rintro r w8 hE;obtain⟨bn,X8,rfl,aC,bg,ao⟩:=G.full rfl hE;have av:=z.J.on (aC.lo.mono z.J.size);have a4:=(Qk d.2.2 w8 av.laid (aw (by decide) av.size));have k3:Ξ w8 (Ad wr.heap.size 2)=σ (θ d.2.2):=bB ao 2;have b0:=aA ao;go_wp21;refine a4.mono ?_;rintro r w9 ⟨ai,rfl,hn,Sw⟩;have R:=ak (aC.aU Sw).1;cases i:xh d.2.2
    .obtain rfl:ai=0:=hn.2 i;have⟨q1,n,q3,q4⟩:=bg i;rw[q1,n,q3,q4];clear hn i q1 n q3 q4;go_wp21;refine(ahq _ w9).mono ?_;rintro r b1 ⟨rfl,rfl⟩;go_wp2;first
      |exact⟨⟨j+1,_,_,_,_,_,_,_,_,_,by omega,by go_num,R⟩,by simp[intOf];omega⟩
      |exact⟨⟨j+1,_,_,_,_,_,_,_,_,_,by omega,by go_num,ak R.J.swap⟩,by simp[intOf];omega⟩
    have bx:¬(ai:Int)<=0:=by have:ai≠0:=(λap=>by rw[hn.1 ap]at i;cases i);omega
    go_wp2;first
     |exact⟨⟨j+1,_,_,_,_,_,_,_,_,_,by omega,by go_num,R⟩,by simp[intOf];omega⟩
     |exact⟨⟨j+1,_,_,_,_,_,_,_,_,_,by omega,by go_num,ak R.J.swap⟩,by simp[intOf];omega⟩
  obtain rfl:j=v.length:=(by omega);go_wp2;go_ret;exact⟨rfl,HL.J.lo⟩
theorem Ox{w:ω}{a b:MW}{ops:Δ OpS}(j:Ci w)(l:aS w 3 m ops.length (ops.flatMap opL))(D:ops.length<=9000000000000000000)(E:∀F∈ops,F.2.1.size<=maxLen) :
 Calls prog 4 #[a.val,b.val,m] w λr w'=>r=.returned (.bool true)/\Below w.heap.size w w':=by obtain⟨H,G,rfl⟩:=aS.slice l;have⟨y,n,z,v,push,bz⟩:=a;have⟨f,g,A,x,B,e⟩:=b;have⟨W,i⟩:=nm ((w.alloc (ξ #[ι κ y,ι κ n,ι κ z,.bool v,.bool push,ι κ bz] 23)).alloc (ξ #[ι κ f,ι κ g,ι κ A,.bool x,.bool B,ι κ e] 23));have c:=zS i;have d:=ak (R6 (a:=⟨y,n,z,v,push,bz⟩) (b:=⟨f,g,A,x,B,e⟩) (j.on (c.mono j.size)) (aS.aU l c (ae _)) D E);unfold MW.val at d ⊢;simp only at d ⊢;go_in;go_wp21;rw[<- i];refine d.J.mono ?_;rintro r w1 ⟨rfl,C⟩;go_wp2;go_ret;exact⟨rfl,c.trans (C.mono c.size)⟩
end
end
section
open Go.RowKit
open _root_.Go.Proofs.Tryz
open Go.IntKind renaming i64→κ
section
open Go.ChangeAt Go.ChangeMaps Go.ChangeShapes Go.Deep Go.WideShapes
namespace mY
theorem own:ownKnob prog.godebug=none:=by kernel_rfl
theorem laidOut:laidOutB prog=true:=by kernel_rfl
theorem aqM:prog.readableRec 23=true:=by kernel_rfl
theorem aqN:(23:TypeId)<prog.types.size:=oS (by kernel_rfl)
theorem axu:prog.readableRec 24=true:=by kernel_rfl
theorem axv:(24:TypeId)<prog.types.size:=oS (by kernel_rfl)
theorem aqO{W:World}(f:laidMetH prog Rows.commandsRow.laid W)(g:W.ShapedOpen prog):Ci W:=by obtain⟨a,b,c,d,e⟩:=VI f g;exact⟨a,b,c,d,e⟩
theorem contract(s:Type)(f:TypeId×Value->s)(W:World)(ac:Nat)(a:Array Value)(k y:Δ (DataW s))(ad:Δ MemPlace)
 (i:∀(G:Nat) t d,f4.params[G]?=some t->a[G]?=some d->Value.okWide prog W .any ac t d)
 (D:DataW.Whole f prog f4.params.toList Rows.commandsSpec.vars false W a.toList k y ad)
 (aa:(DataW.weightsEach prog (f4.params.toList++Rows.commandsSpec.plain.varTypes prog) (k++y)).all (·<=reachBytes)=true) (hL:laidMetH prog Rows.commandsRow.laid W) (hS:W.ShapedOpen prog) :
 Calls prog 4 a W λx j=>∃d,x=.returned d/\Rows.commandsSpec.post f prog f4 false true false false W a d j:=by
 have O:=aa;have b:=D;obtain⟨al,q,B,hV,rfl,ar,Sl⟩:=D;have A:DataW.TrodAll f prog W 0 (λ_=>true) true f4.params.toList a.toList k al:=B;rw[params4]at A i O;obtain⟨R,Jl,d0,an,I,q0,am,rfl,rfl,h0,r0⟩:=trodAll_cons A;obtain⟨T,Ld,d1,ao,K,q1,rfl,rfl,rfl,h1,r1⟩:=trodAll_cons r0;obtain⟨U,av,d2,ap,L,q2,rfl,rfl,rfl,z,r2⟩:=trodAll_cons r1;obtain⟨rfl,rfl,rfl⟩:=trodAll_nil r2;obtain rfl:a=#[R,T,U]:=by cases a;simp_all
 obtain⟨rfl,rfl⟩:=trodVars_none hV;obtain⟨f0,F⟩:=h0;obtain⟨Q,M,V,w,N,push,rfl⟩:=MX (i 0 23 R rfl rfl) F;obtain⟨f1,u⟩:=h1;obtain⟨r,v,X,o,P,Y,rfl⟩:=MX (i 1 23 T rfl rfl) u;obtain⟨l,n,m,rfl⟩:=okWide_slice underlying24 (i 2 24 U rfl rfl);have Z:=z;obtain⟨f2,p⟩:=Z;have uq:(Value.slice l n m).cells.toList=[.slice l n m]:=rfl;rw[uq]at p;obtain⟨H,kz,V8,ag⟩:=R9 p;have ai:H.length<=9000000000000000000:=(by rcases ag with⟨_,rfl⟩|⟨rest,E⟩;{simp};simp only at E;subst E;have:=Oy O (j:=2) rfl rfl;omega);clear B;simp only[List.append_nil]at b;refine(Ox (a:=⟨Q,M,V,N,push,w⟩) (b:=⟨r,v,X,P,Y,o⟩) (ops:=H) (aqO hL hS) kz ai V8).mono λx j ⟨he,g⟩=>?_;subst he;have C:DataW.TrodAll f prog j 0 (λab=>decide (ab<W.heap.size)) true [23,23,24] [.agg #[.int κ Q,.int κ M,.int κ V,.bool N,.bool push,.int κ w],.agg #[.int κ r,.int κ v,.int κ X,.bool P,.bool Y,.int κ o],.slice l n m] [d0,d1,d2] (I++(K++(L++[]))):=(trodAll_cons_mk (Below.trod laidOut aqM aqN ⟨f0,F⟩ g (λe c=>b.lt e (by simp[c]))) (trodAll_cons_mk (Below.trod laidOut aqM aqN ⟨f1,u⟩ g (λe c=>b.lt e (by simp[c]))) (trodAll_cons_mk (Below.trod laidOut axu axv z g (λe c=>b.lt e (by simp[c]))) trodAll_mk0)));simp only[List.append_nil]at C;exact⟨_,rfl,_,_,_,[],I++(K++L),[],b,trodAll_cons_mk (shut_bool underlying4 _) trodAll_mk0,C,rfl,g.frame _,λh=>by cases h⟩
noncomputable def Bo (os:Os):World:=
 { World.doorLaid prog 92 os with heap:=(World.doorLaid prog 92 os).heap.modify 3 λ
    |.cells _ t frozen=>.cells (match(Go.Pinned.utf8First:DataW Unit)with|.agg l=>(l.map λ| .lit (.int k n)=>Value.int k n|_=>.nilFunc).toArray|_=>#[]) t frozen
    |o=>o }
def Sj:Array Value:=#[.agg #[.int κ 0,.int κ 0,.int κ 0,.bool false,.bool false,.int κ 0],.agg #[.int κ 0,.int κ 0,.int κ 0,.bool false,.bool false,.int κ 0],.slice none 0 0]
noncomputable def lmW (os:Os):World:=((Bo os).forCall (λ_ _=>0) ⟨#[],Sj,[]⟩).memory
theorem lm1(a:Os):(DataW.laidRun prog (lmW a) 8 (Rows.commandsRow.laid.map (·.1))).map (·.1)=some Rows.commandsRow.laid:=by kernel_rfl
theorem lm2(a:Os):(DataW.laidRun prog (lmW a) 8 (Rows.commandsRow.laid.map (·.1))).map (λb=>Si (b.2.map Oz) 0)=some true:=by kernel_rfl
theorem lm3(a:Os):(DataW.laidRun prog (lmW a) 8 (Rows.commandsRow.laid.map (·.1))).map (λb=>laidRowsB prog (lmW a) b.2)=some true:=by kernel_rfl
theorem aeg(a:Os):laidMetH prog Rows.commandsRow.laid ((Bo a).forCall (λ_ _=>0) ⟨#[],Sj,[]⟩).memory:=by rw[MakeChecks.laidMetH_plain _ _ _ (by kernel_rfl)];exact ama 8 (lm1 a) (lm2 a) (lm3 a)
end mY
end
section
open Go.ChangeAt Go.ChangeShapes Go.Deep Go.WideShapes
namespace mY
theorem reads(c:Os){a:Type}(b:TypeId×Value->a):∃d,DataW.whole b prog ((Bo c).forCall (λ_ _=>0) ⟨#[],mY.Sj,[]⟩).memory f4.params.toList Rows.commandsSpec.vars false mY.Sj.toList 8=some ([.agg [.lit (.int κ 0),.lit (.int κ 0),.lit (.int κ 0),.lit (.bool false),.lit (.bool false),.lit (.int κ 0)],.agg [.lit (.int κ 0),.lit (.int κ 0),.lit (.int κ 0),.lit (.bool false),.lit (.bool false),.lit (.int κ 0)],.nil],[],d):=
 ⟨[],by kernel_rfl⟩
theorem lifted(b:Os)(s:b.Started)(c:Type)(a:TypeId×Value->c)(d:Stop.Interp) :
 ReturnsInHanded {} Tryz.checked b 4 .any ((OpenSpec.ofChange Rows.commandsSpec).preRow a prog f4 Rows.commandsRow.domain false Rows.commandsRow.laid) (((OpenSpec.ofChange Rows.commandsSpec).at d).post a prog f4 false true false false):=by
 obtain⟨u,p⟩:=reads b a;refine returnsInHanded_of_row (C:=Tryz.checked) (s:=OpenSpec.ofChange Rows.commandsSpec) own s (by kernel_rfl) func4
  (witness_row_at (enc:=a) (C:=Tryz.checked) false (Bo b) mY.Sj rfl (by kernel_rfl) (by kernel_rfl) (by kernel_rfl)
    (OpenSpec.preRow_of_cond 8 p (by kernel_rfl) (λt n=>by cases n) (by kernel_rfl) (mY.aeg b))) ?_
 intro W f e i j g o m _ _ r k l _;exact mY.contract c a W f e i j g o m r k l
theorem said:Rows.CommandsSaid:=
 OpenClaim.holds_of_cond 4 f4 rfl rfl rfl rfl rfl rfl rfl ⟨rfl,rfl,rfl,rfl,rfl⟩ rfl rfl rfl rfl rfl (by kernel_rfl) func4 aht
  (oS (by kernel_rfl)) (by unfold Func.isWrapper;first|(rw[aN (by decide +kernel)];kernel_rfl)|(rw[aH (by decide +kernel)];exact⟨rfl,rfl⟩))
  (λd e b c _ a=>by rw[OpenClaim.pre_eq_preRow];exact lifted d e b c a)
theorem plain(b:FuncId)(c:Func)(f:Tryz.pinned.checked.prog.funcNamed "quarry/quarrylaw.Commands"=some b)(g:Tryz.pinned.checked.prog.funcs[b]?=some c) :
 true=Tryz.pinned.checked.prog.looks []/\∀(e:Nat) a,c.params[e]?=some a->Tryz.pinned.checked.prog.wantsStandIn a=false:=by
 obtain rfl:b=4:=bh ((show prog.funcNamed "quarry/quarrylaw.Commands"=some 4 by kernel_rfl).symm.trans f) |>.symm;obtain rfl:c=f4:=(bh (func4.symm.trans g)).symm;refine⟨by kernel_rfl,λe a d=>?_⟩;rw[params4]at d;have i:a∈[23,23,24]:=by simpa using Array.mem_of_getElem? d
 have j:([23,23,24].all λk=>!prog.wantsStandIn k)=true:=by kernel_rfl
 exact(show prog.wantsStandIn a=false by simpa using gQ.1 j a i)
theorem card:Rows.CommandsCardSaid:=
 Claim7.holds_tied_plain_at .later [] _ _ _ _ said (λ_ a=>by cases a) (by kernel_rfl) (λ_ a=>by cases a) commands_row_tie rfl ⟨rfl,rfl⟩ (by kernel_rfl) rfl plain (by kernel_rfl)
end mY
theorem aeh:Rows.CommandsCardSaid:=mY.card
end
