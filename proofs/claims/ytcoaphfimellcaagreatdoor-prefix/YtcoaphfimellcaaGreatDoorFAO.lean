import Derived.Test.YtcoaphfimellcaaGreatDoorFAK
import Derived.DeepKeys4
set_option maxHeartbeats 0
set_option maxRecDepth 100000
namespace Go.Proofs.YtcoaphfimellcaaGreatDoor
open Go.RowKit
open _root_.Go.Proofs.Tryz
open Option renaming some→σ
open Go.IntKind renaming i64→κ
open Go renaming World→ω,Value→υ
variable{w n i:Nat}{p t:ω}{m:TypeId}{x:List υ}{v:Program}{l:υ}
section
open Go.Maps Go.WideMaps
namespace S
theorem Tryz.laidOut:laidOutB prog=true:=by kernel_rfl
theorem Tryz.ajE:(229:TypeId)<prog.types.size:=jF (by kernel_rfl)
theorem Tryz.alJ:(match prog.underlying 229 with|some (.array _ _)|some (.struct _)=>true|_=>false)=true:=by kernel_rfl
theorem Tryz.ajF:KeyLaw prog 229:=deep_law_laid Tryz.laidOut (m:=2) (by omega) Tryz.ajE (by kernel_rfl) Tryz.alJ
theorem Tryz.Hq:Keyed prog 229:=Keyed.of_law Tryz.ajF
theorem Tryz.ahb:prog.cellsOf 229=3:=by kernel_rfl
theorem Tryz.alK:prog.cellsOf 3=1:=by kernel_rfl
theorem Tryz.alL:prog.cellsOf 4=1:=by kernel_rfl
theorem Tryz.Uo:prog.cellsOf 9=1:=by kernel_rfl
theorem Tryz.Y4:prog.keyType 229=true:=by kernel_rfl
theorem Tryz.acK(a:ω):(zeroValue 3).run prog a=.ok (.int κ 0) a:=by kernel_rfl
def kl(c:Cl):Lit:=.string (keyBytes [.bool c.null,.int κ c.n,.string c.s.data.toList])
theorem Qz{b:Int}(a:cR b):(Lit.int κ b).wf=true:=by unfold cR at a;exact WalkArith.wf_i64 a
theorem QA(k:v.types.size=w+1)
 (f:v.underlying 229=σ (TypeDesc.struct #[{ name:= "Null",type:=4,offset:=0,embedded:=false,tag:= "",pkgPath:= "",byteOffset:=0 },{ name:= "N",type:=3,offset:=1,embedded:=false,tag:= "",pkgPath:= "",byteOffset:=8 },{ name:= "S",type:=9,offset:=2,embedded:=false,tag:= "",pkgPath:= "",byteOffset:=16 }]))
 (g:v.underlying 4=σ .bool) (e:v.underlying 3=σ (.int κ)) (i:v.underlying 9=σ .string) (j:v.keyType 229=true) (c:v.cellsOf 229=3) (c4:v.cellsOf 4=1) (c3:v.cellsOf 3=1) (d:v.cellsOf 9=1)
 (a:Cl) (b:zN a):keyOf v 229 (.agg #[.bool a.null,.int κ a.n,.string a.s])=σ (kl a):=by
 have m:=Qz b.1;have l:a.s.size<=maxLen:=by have:=b.2;unfold maxLen;omega
 simp[keyOf,f,j,Value.formed,c,Value.cells,Program.keyLits,k,g,e,i,c3,c4,d,m,l,kl]
theorem DI(a:Cl)(b:zN a):keyOf prog 229 (.agg #[.bool a.null,.int κ a.n,.string a.s])=σ (kl a):=by obtain⟨d,c⟩:=rL.2 (dF (aI _) Tryz.ajE);exact QA c underlying229 underlying4 underlying3 underlying9 Tryz.Y4 Tryz.ahb Tryz.alL Tryz.alK Tryz.Uo a b
theorem alM{a b:Cl}(f:zN a)(g:zN b)(e:kl a=kl b):a=b:=by have d:=Tryz.ajF.inj (DI a f) (e ▸ DI b g);simp only[Value.agg.injEq]at d;have c:=a7 Array.toList d;simp at c;exact Cl.ext' c.1 c.2.1 c.2.2
def known(es:List Cl)(c:Cl):Bool:=es.any λd=>d.beq c
def place(es:List Cl)(c:Cl):Nat:=es.findIdx λd=>d.beq c
def wR(es:List Cl)(c:Cl):List Cl:=if known es c then es else es++[c]
def pA(cs:List Cl):List Cl:=cs.foldl wR []
theorem Y5(b:List Cl)(a:Cl):pA (b++[a])=wR (pA b) a:=by simp[pA]
theorem DJ(a:List Cl):(pA a).length<=a.length:=by
 suffices H:∀(a b:List Cl),(a.foldl wR b).length<=b.length+a.length by simpa[pA]using H a []
 intro a;induction a with|nil=>simp|cons c f d=>intro b;rw[jO];have:=d (wR b c);have e:(wR b c).length<=b.length+1:=(by unfold wR;split<;>simp);simp only[List.length_cons];omega
theorem I6{b:List Cl}{c:Cl}(a:c∈pA b):c∈b:=by
 suffices H:∀(b d:List Cl),c∈b.foldl wR d->c∈d\/c∈b by simpa using H b [] a
 intro b;induction b with
 |nil=>intro d a;exact .inl a
 |cons f g e=>
  intro d a;rw[jO]at a;rcases e _ a with a|a
  {unfold wR at a;split at a;{exact .inl a};rcases bn.1 a with a|a;{exact .inl a};simp at a;exact .inr (by simp[a])};exact .inr (by simp[a])
theorem E0(c:List Cl)(a:Cl):known c a=true↔a∈c:=by simp only[known,List.any_eq_true];constructor;{rintro⟨f,e,b⟩;rw[Cl.beq_iff]at b;subst b;exact e};intro d;exact⟨a,d,(Cl.beq_iff a a).2 rfl⟩
theorem I7{b:List Cl}{c:Cl}(a:c∈b):known (pA b) c=true:=by
 suffices H:∀(b d:List Cl),(c∈d\/c∈b)->c∈b.foldl wR d by exact(E0 _ _).2 (H b [] (.inr a))
 intro b;induction b with
 |nil=>intro d a;simpa using a
 |cons f i g=>
  intro d a;rw[jO];apply g;by_cases e:c∈i;{exact .inr e}
  refine .inl ?_;unfold wR;rcases a with a|a
  {split;{exact a};exact eF _ a};have:c=f:=(by simpa[e]using a);subst this;split;{exact(E0 _ _).1 ‹_›};simp
theorem DK{a:List Cl}{b:Cl}(c:known a b=true):place a b<a.length:=by unfold place;rw[List.findIdx_lt_length];simpa[known]using c
theorem Y6{a:List Cl}{b:Cl}(e:known a b=true):a[place a b]?=σ b:=by have d:=DK e;rw[af d];have:=tg (xs:=a) (p:=λc=>c.beq b) (w:=(show a.findIdx (λc=>c.beq b)<a.length from d));rw[Cl.beq_iff]at this;exact a7 σ this
def I8(es:List Cl)(D:DataW Unit):Prop:=
 IsMap D/\∀c,zN c->Maps.has D (kl c)=known es c/\(known es c=true->D.atKey (kl c) (.lit (.int κ 0))=.lit (.int κ (place es c:Int)))
theorem Uq:I8 [] (.map []):=⟨isMap_empty,λb _=>⟨rfl,λa=>by simp[known]at a⟩⟩
theorem I8.add{b:List Cl}{l:DataW Unit}(d:I8 b l){c:Cl}(o:zN c)(p:known b c=false):I8 (b++[c]) (l.put (kl c) (.lit (.int κ (b.length:Int)))):=by have f:WideAt.IsKeyLit (kl c):=trivial;refine⟨d.1.put _ _,λa k=>?_⟩;by_cases g:a=c;{subst g;have i:known (b++[a]) a=true:=(E0 _ _).2 (by simp);rw[has_put_same d.1 f,i];refine⟨rfl,λ_=>?_⟩;rw[atKey_put_same d.1 f];have:place (b++[a]) a=b.length:=(by unfold place;rw[List.findIdx_append];have n:b.findIdx (λe=>e.beq a)=b.length:=(by apply List.findIdx_eq_length.2;intro e r;have:=mA.1 (show b.any (λe=>e.beq a)=false from p) e r;simpa using this);rw[n,aE (by omega)];simp[List.findIdx_cons,(Cl.beq_iff a a).2 rfl]);rw[this]};have m:kl a≠kl c:=λd=>g (alM k o d);rw[has_put_other m,atKey_put_other m];have j:c.beq a=false:=(by cases j:c.beq a;{rfl};exact absurd ((Cl.beq_iff _ _).1 j).symm g);have i:known (b++[c]) a=known b a:=(by simp[known,j]);rw[i];refine⟨(d.2 a k).1,λf=>?_⟩;rw[(d.2 a k).2 f];have:place (b++[c]) a=place b a:=(by unfold place;rw[List.findIdx_append,aF (show b.findIdx (λe=>e.beq a)<b.length from DK f)]);rw[this]
def pw(n:Nat):Nat:=bitLen (max n 1 - 1)
theorem Xe(a:Nat)(b:a<=255):pw a<=8:=bitLen_le _ 8 (by omega)
theorem apC(c:w<n):w<2 ^ pw n:=by
 have a:=ET (max n 1 - 1);have b:w<=max n 1 - 1:=by omega
 exact dF b a
def lD(es:List Cl)(cs:List Cl):List Bool:=cs.flatMap λc=>bitsOf (place es c) (pw es.length)
theorem zP(a c:List Cl)(b:Cl):lD a (c++[b])=lD a c++bitsOf (place a b) (pw a.length):=by simp[lD,List.flatMap_append]
theorem wA(a b:List Cl):(lD a b).length=b.length*pw a.length:=by induction b with|nil=>simp[lD]|cons c d f=>have e:lD a (c::d)=bitsOf (place a c) (pw a.length)++lD a d:=rfl;rw[e,aw,f,bP,aX,q6];omega
def x8(k:Int)(cs:List Cl):List Bool:=bitsOf (pA cs).length 8++iU k (pA cs)++lD (pA cs) cs
def bJ(cs:List Cl):List υ:=cs.flatMap λc=>[.bool c.null,.int κ c.n,.string c.s]
theorem uN(b:List Cl):(bJ b).length=b.length*3:=by induction b with|nil=>rfl|cons a c e=>have d:bJ (a::c)=[.bool a.null,.int κ a.n,.string a.s]++bJ c:=rfl;rw[d,aw,e,aX];simp;omega
theorem FV(b:List Cl)(a:Cl):bJ (b++[a])=bJ b++[.bool a.null,.int κ a.n,.string a.s]:=by simp[bJ,List.flatMap_append]
theorem I9{b:List Cl}{i:Nat}{c:Cl}(d:b[i]?=σ c):(bJ b)[i*3]?=σ (.bool c.null)/\(bJ b)[i*3+1]?=σ (.int κ c.n)/\(bJ b)[i*3+2]?=σ (.string c.s):=by
 induction b generalizing i with
 |nil=>simp at d
 |cons a e l=>
  have j:bJ (a::e)=[.bool a.null,.int κ a.n,.string a.s]++bJ e:=rfl;cases i with
  |zero=>simp at d;subst d;rw[j];simp
  |succ i=>
   have k:=l (i:=i) (by simpa using d);rw[j];have f:∀g,([Value.bool a.null,.int κ a.n,.string a.s]++bJ e)[g+3]?=(bJ e)[g]?:=λg=>by
    rw[bp (by simp)];simp
   rw[show(i+1)*3=i*3+3 by omega,show i*3+3+1=(i*3+1)+3 by omega,show i*3+3+2=(i*3+2)+3 by omega,f,f,f];exact k
theorem A4{d:Nat}{a:List Cl}(b:p.ownsRow w m 3 (.slice (σ ⟨n,0,none⟩) i d) i (bJ a)):nD p n 0 a:=by
 intro j k c;have l:j<a.length:=(aj.1 c).1;have o:a.length=i:=by have:=b.1;rw[uN]at this;omega
 obtain⟨e,f,g⟩:=I9 c;rw[gH];exact⟨(b.cellAt _ (by omega)).trans e,(b.cellAt _ (by omega)).trans f,(b.cellAt _ (by omega)).trans g⟩
theorem Lh{b:Type}{c:υ->Option (DataW b×List MemPlace)}{a:DataW b}(f:p.ownsMap v m c w n a)(j:t.heap[w]?=p.heap[w]?):t.ownsMap v m c w n a:=by obtain⟨e,d,g,i⟩:=f;exact⟨e,d,j.trans g,i⟩
end S
namespace S
theorem Xf(a:Int)(c:ω)(e:0<=a)(f:a<18446744073709551616) :
 Calls prog 291 #[.int .u64 a] c λb d=>b=.returned (.int κ (bitLen a.toNat:Int))/\c=d:=by go_in;go_wp2_with(go_at_call 235;refine(EV _ _ e f).mono ?_;rintro b d ⟨rfl,rfl⟩);go_ret;exact⟨rfl,rfl⟩
theorem zQ(a:Nat)(f:ω)(k:a<=255) :
 Calls prog 338 #[.int κ (a:Int)] f λb c=>b=.returned (.int κ (pw a:Int))/\f=c:=by have d:(a:Int)<1->(bitLen (0:Int).toNat:Int)=(pw a:Int):=(by intro j;have:a=0:=(by omega);subst this;rfl);have e:(1:Int)<=a->(bitLen (a - 1):Int)=(pw a:Int):=(by intro j;have:a - 1=max a 1 - 1:=(by omega);rw[this];rfl);have g:=au d;have i:=au e;clear d e;go_in;go_wp2_with fail;{refine(Xf _ _ (by omega) (by omega)).mono ?_;rintro b c ⟨rfl,rfl⟩;go_wp2;go_ret;exact⟨a7 Ending.returned (a7 (Value.int IntKind.i64) (g.J (by assumption))),rfl⟩};refine(Xf _ _ (by omega) (by omega)).mono ?_;rintro b c ⟨rfl,rfl⟩;go_wp2;go_ret;exact⟨a7 Ending.returned (a7 (Value.int IntKind.i64) (i.J (by assumption))),rfl⟩
theorem su{size:Nat}(d:p.ownsRow w m size l n x):∃c a,l=.slice c n a/\(0<n->∃b,c=σ (Ad b 0))/\n<=a:=by rcases d.2 with⟨rfl,rfl⟩|⟨b,a,cur,rfl,_,_,e,_⟩;{exact⟨none,0,rfl,λd=>by omega,by omega⟩};exact⟨_,a,rfl,λ_=>⟨b,rfl⟩,e⟩
theorem Ja{size:Nat}(b:p.ownsRow w m size l n x){M:Nat}(c:M<w):l.ownBlock=none\/l.ownBlock≠σ M:=by cases hv:l.ownBlock with|none=>exact .inl rfl|some a=>have:=(b.lt a hv).1;exact .inr (by intro m;simp at m;omega)
def K2(K:Nat->Prop)(a b:Nat)(j:Nat):Prop:=K j\/(a<=j/\j<b)
theorem QB{a:Cl}(b:(p.alloc (si a.null a.n a.s)).grownBy t (σ w))(c:w<p.heap.size) :
 t.cell? (Ad p.heap.size 0)=σ (.bool a.null)/\t.cell? (Ad p.heap.size 1)=σ (.int κ a.n)/\t.cell? (Ad p.heap.size 2)=σ (.string a.s):=by refine⟨b.cell ?_ (by simp;omega),b.cell ?_ (by simp;omega),b.cell ?_ (by simp;omega)⟩<;>(rw[cM _ _ _ _ rfl];rfl)
theorem Tryz.Jb:(prog.info? 229).map (λa=>(a.zero,a.size,a.bytes))=σ (σ (.agg #[.bool false,.int κ 0,.string ByteArray.empty]),3,32):=by kernel_rfl
theorem Li(j:Nat->Prop)(u:Nat)(C:List Bool)(p:Int)(b:List Cl)(ao:Option Addr)(i am a4:Nat)(d:ω)(hw:Writer j d u C)
 (T:0<b.length->ao=σ (Ad i am)) (hc:nD d i am b) (hK:0<b.length->j i) (lP:∀a∈b,zN a) (bb:b.length<=64) (hb:C.length<=1000) :
 Calls prog 337 #[.agg #[],.pointer (σ (Ad u 0)),.int κ p,.slice ao b.length a4] d λk w'=>k=.returned (.tuple #[])/\Writer j w' u (C++x8 p b)/\aY j d w':=by
 have⟨i0,hi,lU,lV,lk⟩:=info_parts Tryz.Jb;have bc:=@run_makeMap prog;have HO:=au lP;clear lP;go_in;go_wp2;go_loopw[9,22] (λa9 a wr=>∃(e:Nat) (M:DataW Unit),e<=b.length/\a=.int κ e/\Hid (I8 (pA (b.take e)) M)/\wr.ownsMap prog 229 (plainElem prog 3) (d.heap.size+1) e M/\wr.ownsRow (d.heap.size+2) 229 3 a9 (pA (b.take e)).length (bJ (pA (b.take e)))/\Below d.heap.size d wr/\d.heap.size+2<=wr.heap.size)
  (λ_ a _=>b.length - (intOf a).toNat)
 (case atStart=>refine⟨0,.map [],aI _,rfl,au Uq,?_,iJ _ _ _ _,((ah _ _).alloc (ae _) _).alloc (by simp) _,by simp⟩;have:=World.ownsMap_made (H:=Unit) (d.alloc (.cells #[] 369)) prog 229 (plainElem prog 3);simpa using this);case round=>
  obtain⟨e,M,KO,rfl,E,R,A,r,oy⟩:=hrel;by_cases cQ:e<b.length
  .have jY:(e:Int)<(b.length:Int):=(by omega);obtain⟨a,L⟩:∃a,b[e]?=σ a:=⟨b[e],af cQ⟩;obtain rfl:=T (by omega);have⟨m,c1,c2⟩:=hc e a L;have t:i<d.heap.size:=bA _ _ m;have ba:i<wr.heap.size:=ai t r.size;rw[<- r.cell (p:=(Ad i _)) t]at m c1 c2;have w:=HO.J a (aA L);have QC:=DI a w;have B:=E.J.2 a w;have ar:=DJ (b.take e);rw[bV]at ar;have ax:pA (b.take (e+1))=wR (pA (b.take e)) a:=(by rw[gY L,Y5]);generalize pA (b.take e)=es at *;have an:=au ax;have HM:=w;have P:=r;have HI:=au L;have o:=A;have z:=au (R.alloc (si a.null a.n a.s));have F:=au QC;clear ax w r L A R QC T hK;obtain⟨va,dG,rfl,-,a5⟩:=su o;cases g:known es a
   .rw[g]at B;have G:=B.1;have y:=au g;have HH:=au G;clear B g G;go_wp2_with(first|(at_lookup;refine wpList_lookup_own_ok_int _ rfl _ _ 463 rfl 229 3 κ Tryz.Hq underlying463 underlying3 (Tryz.acK _) (d.heap.size+1) e _ rfl z.J _ _ rfl F.J ?_;intro q D K;rw[HH.J])|(at_mapUpdate;refine wpList_mapUpdate_own _ rfl _ _ _ 463 rfl 229 3 Tryz.Hq underlying463 _ (d.heap.size+1) e _ rfl z.J (by unfold maxLen;omega) _ _ _ rfl rfl F.J _ [] (plainElem_int underlying3 (WalkArith.wf_i64 (by omega))) ?_;intro w1 ap x;clear D K;have⟨k0,k1,k2⟩:=QB x (by omega))|(at_builtin;refine ou _ rfl _ _ 230 rfl (d.heap.size+2) 229 i0 _ 3 32 underlying230 hi lU lV lk rfl (by decide) _ _ _ rfl (((o.alloc (si a.null a.n a.s)).kept x (Ja o (by omega))).alloc (si a.null a.n a.s)) (Ad w1.heap.size 0) 1 1 [.bool a.null,.int κ a.n,.string a.s] rfl rfl ?c1 ?c2 ?c3 ?c4 ?c5 ?_));case c1=>
     intro c a8 f
     match c,f with
     |0,f=>simp at f;subst f;simp[Addr.add]
     |1,f=>simp at f;subst f;simp[Addr.add]
     |2,f=>simp at f;subst f;simp[Addr.add]
    (case c2=>intro a8 hu;simp at hu;rcases hu with rfl|rfl|rfl<;>rfl);(case c3=>unfold maxLen;omega);(case c4=>omega);(case c5=>have:=x.size;simp at this ⊢;omega);intro v' w2 FP Q _;have fy:=Ja o (M:=d.heap.size+1) (by omega);have fx:∀v,(Value.slice va es.length dG).ownBlock=σ v->d.heap.size<=v:=λv hg=>by have:=(o.lt v hg).1;omega
    have s1:=x.size;have s2:=Q.size;simp only[World.size_alloc]at s1 s2;have Ur:=(ap.alloc (si a.null a.n a.s)).kept Q (by rcases fy with l|l;rw[l];simp;exact Ne.symm l);have iC:=(((P.alloc P.size (si a.null a.n a.s)).grown x (by simp;omega) (λc f=>by cases f;omega)).alloc (by omega) (si a.null a.n a.s)).grown Q (by simp;omega) fx;clear fy fx ap x Q k0 k1 k2 m c1 c2;go_wp2;go_roundw;(case rel=>have k:pA (b.take (e+1))=es++[a]:=(by rw[an.J,wR,y.J];rfl);refine⟨e+1,_,by omega,by go_num,by rw[k];exact au (E.J.add HM y.J),Ur,?_,iC,by omega⟩;rw[k,FV,aw];exact FP);case measure=>simp[intOf];omega
   rw[g]at B;have G:=B.1;have y:=au g;have HH:=au G;clear B g G;go_wp2_with(first|(at_lookup;refine wpList_lookup_own_ok_int _ rfl _ _ 463 rfl 229 3 κ Tryz.Hq underlying463 underlying3 (Tryz.acK _) (d.heap.size+1) e _ rfl z.J _ _ rfl F.J ?_;intro q D K;rw[HH.J];clear D K)|fail);go_roundw;(case rel=>have k:pA (b.take (e+1))=es:=(by rw[an.J,wR,y.J];rfl);refine⟨e+1,M,by omega,by go_num,by rw[k];exact E,z.J.mono (by omega),by rw[k];exact o.alloc _,P.alloc P.size _,by simp;omega⟩);case measure=>simp[intOf];omega
  rename ω=>wa
  obtain rfl:e=b.length:=by omega
  rw[aL (ae _)]at E A;have ar:=DJ b;have wu:∀a∈pA b,zN a:=λa l=>HO.J a (I6 l);have g:∀a∈b,known (pA b) a=true:=λa l=>I7 l;have HE:=au (show x8 p b=bitsOf (pA b).length 8++iU p (pA b)++lD (pA b) b from rfl);generalize pA b=es at *;have aa:=au wu;have y:=au g;obtain⟨va,dG,rfl,Ue,a5⟩:=su A;have Y:d.grownBy wa none:=mX r;have HA:=hw.also (K':=K2 j d.heap.size wa.heap.size) Y (λc f=>f);have aC:Hid (nD wa i am b):=by
   intro c a f;have⟨H,h2,s⟩:=hc c a f;have t:i<d.heap.size:=bA _ _ H;exact⟨(r.cell (p:=(Ad i _)) t).trans H,(r.cell (p:=(Ad i _)) t).trans h2,(r.cell (p:=(Ad i _)) t).trans s⟩
  have o:=A;have z:=au R;have a0:=aY.uz (K:=j) Y hw.old;have a1:=au Ue;clear wu g A R r Y Ue;go_wp2_with fail;refine(nG _ u C _ _ _ HA (by omega) (by omega) (by omega) (by rw[show Int.toNat 8=8 from rfl];omega)).mono ?_;rintro k w1 ⟨rfl,H,h2⟩;rw[show Int.toNat 8=8 from rfl,bQ]at H;go_wp2;go_loopw[50] (λa w2=>∃c:Nat,c<=es.length/\a=.int κ c/\Hid (Writer (K2 j d.heap.size wa.heap.size) w2 u (C++bitsOf es.length 8++iU p (es.take c)))/\Hid (aY (K2 j d.heap.size wa.heap.size) wa w2)) (λa _=>es.length - (intOf a).toNat)
  case atStart=>exact⟨0,aI _,rfl,by simpa[iU,Hid]using H,h2⟩
  case round=>
   obtain⟨c,f,rfl,V,X⟩:=hrel;by_cases Us:c<es.length
   . have a2:(c:Int)<(es.length:Int):=by omega
     obtain⟨v,rfl⟩:=a1.J (by omega);obtain⟨a,n⟩:∃a,es[c]?=σ a:=⟨es[c],af Us⟩;have av:=o.lt v rfl;have⟨m,c1,c2⟩:=(A4 o).kept X.J (.inr ⟨by omega,av.2⟩) c a n;have t:v<wr.heap.size:=bA _ _ m;have w:=aa.J a (aA n);have U:=sN p (es.take c) (λad hd=>aa.J ad (eH hd));rw[bV]at U;have HJ:=au n;clear n av;rw[gH]at m c1 c2;go_wp2_with fail;refine(zM _ u _ p a _ (V.J.alloc _) w.1 (by have:=w.2;omega) (by simp only[List.length_append,bP];omega)).mono ?_;rintro k W ⟨rfl,s,I⟩;have Z:=s;have H4:=(X.J.alloc V.J.old _).trans I;clear s I U m c1 c2;go_wp2;go_roundw
     case rel=>
      refine⟨c+1,by omega,by go_num,?_,H4⟩;rw[gY HJ.J,sr,<- bN];exact Z
     case measure=>simp[intOf];omega
   . obtain rfl:c=es.length:=by omega
     rw[aL (ae _)]at V;go_wp2_with fail;refine(zQ es.length _ (by omega)).mono ?_;rintro k W ⟨rfl,rfl⟩;have bd:=Xe es.length (by omega);go_wp2;go_loopw[64] (λa W=>∃c:Nat,c<=b.length/\a=.int κ c/\Hid (Writer (K2 j d.heap.size wa.heap.size) W u (C++bitsOf es.length 8++iU p es++lD es (b.take c)))/\Hid (aY (K2 j d.heap.size wa.heap.size) wa W)) (λa _=>b.length - (intOf a).toNat)
     case atStart=>exact⟨0,aI _,rfl,by simpa[lD,Hid]using V.J,X⟩
     case round=>
      obtain⟨c,f,rfl,N,O⟩:=hrel;by_cases Us:c<b.length
      . have a2:(c:Int)<(b.length:Int):=by omega
        obtain rfl:=T (by omega);obtain⟨a,n⟩:∃a,b[c]?=σ a:=⟨b[c],af Us⟩;have⟨m,c1,c2⟩:=aC.J.kept O.J (.inl (hK (by omega))) c a n;have t:i<wr.heap.size:=bA _ _ m;have al:=HO.J a (aA n);have g:=y.J a (aA n);have D:=(E.J.2 a al).2 g;have xD:=DK g;have TV:=au D;have HJ:=au n;have F:=au (DI a al);have a3:=(Lh z.J (O.J.block (d.heap.size+1) (.inr ⟨by omega,by omega⟩))).alloc (si a.null a.n a.s);have U:=sN p es (λad hd=>aa.J ad hd);have ab:=wA es (b.take c);rw[bV]at ab;have aq:min c b.length*pw es.length<=64*8:=lL (by omega) (by omega);have Y9:Hid ((lD es (b.take c)).length<=512):=by rw[ab];exact aq
        clear D n g al T hK ab aq;generalize hq:place es a=q at *;have HQ:=au hq;clear hq;go_wp2_with(first|(at_lookup;refine wpList_lookup_own_int _ rfl _ _ 463 rfl 229 3 κ Tryz.Hq underlying463 underlying3 (Tryz.acK _) (d.heap.size+1) b.length _ rfl a3 _ _ rfl F.J ?_;intro q' ac K;rw[TV.J]at ac;obtain rfl:(q:Int)=q':=by simpa using ac)|fail);clear ac K;refine(nG _ u _ _ _ _ (N.J.alloc _) (by omega) (by omega) (by omega) (by have:=Y9.J;simp only[List.length_append,bP,Int.toNat_natCast];omega)).mono ?_;rintro k w4 ⟨rfl,s,I⟩;rw[bQ,bQ]at s;have Z:=s;have H4:=(O.J.alloc N.J.old _).trans I;clear s I U m c1 c2;go_wp2;go_roundw
        case rel=>
         refine⟨c+1,by omega,by go_num,?_,H4⟩;rw[gY HJ.J,zP,HQ.J,<- bN];exact Z
        case measure=>simp[intOf];omega
      . obtain rfl:c=b.length:=by omega
        rw[aL (ae _)]at N;go_wp2;go_end0;refine⟨rfl,?_,a0.trans (O.J.mono (λ_ l=>.inl l))⟩;rw[HE.J];have:=N.J.less (K':=j) (λ_ l=>.inl l);simpa only[List.append_assoc]using this
end S
end
