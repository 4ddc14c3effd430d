import Derived.Test.YtfeckmaleonjjaaGreatDoorFAK
import Derived.DeepKeys4
set_option maxHeartbeats 0
set_option maxRecDepth 100000
namespace Go.Proofs.YtfeckmaleonjjaaGreatDoor
open List renaming length→Λ
open Go.RowKit
open _root_.Go.Proofs.Tryz
open Option renaming some→σ
open Go.IntKind renaming i64→κ
open Go renaming World→ω,Value→υ
variable{w n i:Nat}{p t:ω}{m:TypeId}{x:Δ υ}{v:Program}{l:υ}
section
open Go.Maps Go.WideMaps
namespace S
theorem Tryz.laidOut:laidOutB prog=true:=by kernel_rfl
theorem Tryz.air:(263:TypeId)<prog.types.size:=oS (by kernel_rfl)
theorem Tryz.akv:(match prog.underlying 263 with|some (.array _ _)|some (.struct _)=>true|_=>false)=true:=by kernel_rfl
theorem Tryz.ais:KeyLaw prog 263:=deep_law_laid Tryz.laidOut (m:=2) (by omega) Tryz.air (by kernel_rfl) Tryz.akv
theorem Tryz.Hc:Keyed prog 263:=Keyed.of_law Tryz.ais
theorem Tryz.agj:prog.cellsOf 263=3:=by kernel_rfl
theorem Tryz.akw:prog.cellsOf 3=1:=by kernel_rfl
theorem Tryz.akx:prog.cellsOf 4=1:=by kernel_rfl
theorem Tryz.Uw:prog.cellsOf 9=1:=by kernel_rfl
theorem Tryz.YG:prog.keyType 263=true:=by kernel_rfl
theorem Tryz.acy(a:ω):(zeroValue 3).run prog a=.ok (.int κ 0) a:=by kernel_rfl
def kl(c:Cl):Lit:=.string (keyBytes [.bool c.bH,.int κ c.n,.string c.s.data.toList])
theorem QF{b:Int}(a:dK b):(Lit.int κ b).wf=true:=by unfold dK at a;exact WalkArith.wf_i64 a
theorem QG(m:v.types.size=w+1)
 (j:v.underlying 263=σ (TypeDesc.struct #[{ name:= "Null",type:=4,offset:=0,embedded:=false,tag:= "",pkgPath:= "",byteOffset:=0 },{ name:= "N",type:=3,offset:=1,embedded:=false,tag:= "",pkgPath:= "",byteOffset:=8 },{ name:= "S",type:=9,offset:=2,embedded:=false,tag:= "",pkgPath:= "",byteOffset:=16 }]))
 (k:v.underlying 4=σ .bool) (i:v.underlying 3=σ (.int κ)) (l:v.underlying 9=σ .string) (c:v.keyType 263=true) (e:v.cellsOf 263=3) (f:v.cellsOf 4=1) (d:v.cellsOf 3=1) (g:v.cellsOf 9=1)
 (a:Cl) (b:Aj a):keyOf v 263 (.agg #[.bool a.bH,.int κ a.n,.string a.s])=σ (kl a):=by
 have o:=QF b.1;have n:a.s.size<=maxLen:=by have:=b.2;unfold maxLen;omega
 simp[keyOf,j,c,Value.formed,e,Value.cells,Program.keyLits,m,k,i,l,d,f,g,o,n,kl]
theorem D5(a:Cl)(b:Aj a):keyOf prog 263 (.agg #[.bool a.bH,.int κ a.n,.string a.s])=σ (kl a):=by have⟨d,c⟩:=sA.2 (bY (aB _) Tryz.air);exact QG c underlying263 underlying4 underlying3 underlying9 Tryz.YG Tryz.agj Tryz.akx Tryz.akw Tryz.Uw a b
theorem aky{a b:Cl}(f:Aj a)(g:Aj b)(e:kl a=kl b):a=b:=by have d:=Tryz.ais.inj (D5 a f) (e ▸ D5 b g);simp only[Value.agg.injEq]at d;have c:=bI Array.toList d;simp at c;exact Cl.ext' c.1 c.2.1 c.2.2
def known(es:Δ Cl)(c:Cl):Bool:=es.any λd=>d.beq c
def cE(es:Δ Cl)(c:Cl):Nat:=es.findIdx λd=>d.beq c
def xt(es:Δ Cl)(c:Cl):Δ Cl:=if known es c then es else es++[c]
def pT(cs:Δ Cl):Δ Cl:=cs.foldl xt []
theorem YH(b:Δ Cl)(a:Cl):pT (b++[a])=xt (pT b) a:=by simp[pT]
theorem D6(a:Δ Cl):(pT a).length<=Λ a:=by
 suffices H:∀(a b:Δ Cl),(a.foldl xt b).length<=Λ b+Λ a by simpa[pT]using H a []
 intro a;induction a with|nil=>simp|cons c f d=>intro b;rw[ke];have:=d (xt b c);have e:(xt b c).length<=Λ b+1:=(by unfold xt;split<;>simp);simp only[List.length_cons];omega
theorem I3{b:Δ Cl}{c:Cl}(a:c∈pT b):c∈b:=by
 suffices H:∀(b d:Δ Cl),c∈b.foldl xt d->c∈d\/c∈b by simpa using H b [] a
 intro b;induction b with
 |nil=>intro d a;exact .inl a
 |cons f g e=>
  intro d a;rw[ke]at a;rcases e _ a with a|a
  {unfold xt at a;split at a;{exact .inl a};rcases bA.1 a with a|a;{exact .inl a};simp at a;exact .inr (by simp[a])};exact .inr (by simp[a])
theorem Fm(c:Δ Cl)(a:Cl):known c a=true↔a∈c:=by simp only[known,List.any_eq_true];constructor;{rintro⟨f,e,b⟩;rw[Cl.beq_iff]at b;subst b;exact e};intro d;exact⟨a,d,(Cl.beq_iff a a).2 rfl⟩
theorem I4{b:Δ Cl}{c:Cl}(a:c∈b):known (pT b) c=true:=by
 suffices H:∀(b d:Δ Cl),(c∈d\/c∈b)->c∈b.foldl xt d by exact(Fm _ _).2 (H b [] (.inr a))
 intro b;induction b with
 |nil=>intro d a;simpa using a
 |cons f i g=>
  intro d a;rw[ke];apply g;by_cases e:c∈i;{exact .inr e}
  refine .inl ?_;unfold xt;rcases a with a|a
  {split;{exact a};exact iD _ a};have:c=f:=(by simpa[e]using a);subst this;split;{exact(Fm _ _).1 ‹_›};simp
theorem D7{a:Δ Cl}{b:Cl}(c:known a b=true):cE a b<Λ a:=by unfold cE;rw[List.findIdx_lt_length];simpa[known]using c
theorem YI{a:Δ Cl}{b:Cl}(e:known a b=true):a[cE a b]?=σ b:=by have d:=D7 e;rw[af d];have:=tR (xs:=a) (p:=λc=>c.beq b) (w:=(show a.findIdx (λc=>c.beq b)<Λ a from d));rw[Cl.beq_iff]at this;exact bI σ this
def I5(es:Δ Cl)(D:DataW Unit):Prop:=
 IsMap D/\∀c,Aj c->Maps.has D (kl c)=known es c/\(known es c=true->D.atKey (kl c) (.lit (.int κ 0))=.lit (.int κ (cE es c:Int)))
theorem Ux:I5 [] (.map []):=⟨isMap_empty,λb _=>⟨rfl,λa=>by simp[known]at a⟩⟩
theorem I5.add{b:Δ Cl}{l:DataW Unit}(d:I5 b l){c:Cl}(o:Aj c)(p:known b c=false):I5 (b++[c]) (l.put (kl c) (.lit (.int κ (Λ b:Int)))):=by have f:WideAt.IsKeyLit (kl c):=trivial;refine⟨d.1.put _ _,λa k=>?_⟩;by_cases g:a=c;{subst g;have i:known (b++[a]) a=true:=(Fm _ _).2 (by simp);rw[has_put_same d.1 f,i];refine⟨rfl,λ_=>?_⟩;rw[atKey_put_same d.1 f];have:cE (b++[a]) a=Λ b:=(by unfold cE;rw[List.findIdx_append];have n:b.findIdx (λe=>e.beq a)=Λ b:=(by apply List.findIdx_eq_length.2;intro e r;have:=jh.1 (show b.any (λe=>e.beq a)=false from p) e r;simpa using this);rw[n,aH (by omega)];simp[List.findIdx_cons,(Cl.beq_iff a a).2 rfl]);rw[this]};have m:kl a≠kl c:=λd=>g (aky k o d);rw[has_put_other m,atKey_put_other m];have j:c.beq a=false:=(by cases j:c.beq a;{rfl};exact absurd ((Cl.beq_iff _ _).1 j).symm g);have i:known (b++[c]) a=known b a:=(by simp[known,j]);rw[i];refine⟨(d.2 a k).1,λf=>?_⟩;rw[(d.2 a k).2 f];have:cE (b++[c]) a=cE b a:=(by unfold cE;rw[List.findIdx_append,aN (show b.findIdx (λe=>e.beq a)<Λ b from D7 f)]);rw[this]
def pw(n:Nat):Nat:=bitLen (max n 1 - 1)
theorem WG(a:Nat)(b:a<=255):pw a<=8:=bitLen_le _ 8 (by omega)
theorem aoI(c:w<n):w<2 ^ pw n:=by
 have a:=Fe (max n 1 - 1);have b:w<=max n 1 - 1:=by omega
 exact bY b a
def lW(es:Δ Cl)(cs:Δ Cl):Δ Bool:=cs.flatMap λc=>eu (cE es c) (pw (Λ es))
theorem Ao(a c:Δ Cl)(b:Cl):lW a (c++[b])=lW a c++eu (cE a b) (pw (Λ a)):=by simp[lW,List.flatMap_append]
theorem wF(a b:Δ Cl):(lW a b).length=Λ b*pw (Λ a):=by induction b with|nil=>simp[lW]|cons c d f=>have e:lW a (c::d)=eu (cE a c) (pw (Λ a))++lW a d:=rfl;rw[e,au,f,cA,cw,rS];omega
def yF(k:Int)(cs:Δ Cl):Δ Bool:=eu (pT cs).length 8++jo k (pT cs)++lW (pT cs) cs
def bW(cs:Δ Cl):Δ υ:=cs.flatMap λc=>[.bool c.bH,.int κ c.n,.string c.s]
theorem uZ(b:Δ Cl):(bW b).length=Λ b*3:=by induction b with|nil=>rfl|cons a c e=>have d:bW (a::c)=[.bool a.bH,.int κ a.n,.string a.s]++bW c:=rfl;rw[d,au,e,cw];simp;omega
theorem F7(b:Δ Cl)(a:Cl):bW (b++[a])=bW b++[.bool a.bH,.int κ a.n,.string a.s]:=by simp[bW,List.flatMap_append]
theorem I6{b:Δ Cl}{i:Nat}{c:Cl}(d:b[i]?=σ c):(bW b)[i*3]?=σ (.bool c.bH)/\(bW b)[i*3+1]?=σ (.int κ c.n)/\(bW b)[i*3+2]?=σ (.string c.s):=by
 induction b generalizing i with
 |nil=>simp at d
 |cons a e l=>
  have j:bW (a::e)=[.bool a.bH,.int κ a.n,.string a.s]++bW e:=rfl;cases i with
  |zero=>simp at d;subst d;rw[j];simp
  |succ i=>
   have k:=l (i:=i) (by simpa using d);rw[j];have f:∀g,([Value.bool a.bH,.int κ a.n,.string a.s]++bW e)[g+3]?=(bW e)[g]?:=λg=>by
    rw[br (by simp)];simp
   rw[show(i+1)*3=i*3+3 by omega,show i*3+3+1=(i*3+1)+3 by omega,show i*3+3+2=(i*3+2)+3 by omega,f,f,f];exact k
theorem Bg{d:Nat}{a:Δ Cl}(b:p.ownsRow w m 3 (.slice (σ ⟨n,0,none⟩) i d) i (bW a)):kC p n 0 a:=by
 intro j k c;have l:j<Λ a:=(ah.1 c).1;have o:Λ a=i:=by have:=b.1;rw[uZ]at this;omega
 have⟨e,f,g⟩:=I6 c;rw[gD];exact⟨(b.cellAt _ (by omega)).trans e,(b.cellAt _ (by omega)).trans f,(b.cellAt _ (by omega)).trans g⟩
theorem KZ{b:Type}{c:υ->Option (DataW b×Δ MemPlace)}{a:DataW b}(f:p.ownsMap v m c w n a)(j:t.heap[w]?=p.heap[w]?):t.ownsMap v m c w n a:=by have⟨e,d,g,i⟩:=f;exact⟨e,d,j.trans g,i⟩
end S
namespace S
theorem WH(a:Int)(c:ω)(e:0<=a)(f:a<18446744073709551616) :
 Calls prog 291 #[.int .u64 a] c λb d=>b=.returned (.int κ (bitLen a.toNat:Int))/\c=d:=by go_in;go_wp2_with(go_at_call 233;refine(Ff _ _ e f).mono ?_;rintro b d ⟨rfl,rfl⟩);go_ret;exact⟨rfl,rfl⟩
theorem Ap(a:Nat)(f:ω)(k:a<=255) :
 Calls prog 349 #[.int κ (a:Int)] f λb c=>b=.returned (.int κ (pw a:Int))/\f=c:=by have d:(a:Int)<1->(bitLen (0:Int).toNat:Int)=(pw a:Int):=(by intro j;have:a=0:=(by omega);subst this;rfl);have e:(1:Int)<=a->(bitLen (a - 1):Int)=(pw a:Int):=(by intro j;have:a - 1=max a 1 - 1:=(by omega);rw[this];rfl);have g:=ak d;have i:=ak e;clear d e;go_in;go_wp21;{refine(WH _ _ (by omega) (by omega)).mono ?_;rintro b c ⟨rfl,rfl⟩;go_wp2;go_ret;exact⟨bI Ending.returned (bI (Value.int IntKind.i64) (g.J (by assumption))),rfl⟩};refine(WH _ _ (by omega) (by omega)).mono ?_;rintro b c ⟨rfl,rfl⟩;go_wp2;go_ret;exact⟨bI Ending.returned (bI (Value.int IntKind.i64) (i.J (by assumption))),rfl⟩
theorem ti{size:Nat}(d:p.ownsRow w m size l n x):∃c a,l=.slice c n a/\(0<n->∃b,c=σ (Ad b 0))/\n<=a:=by rcases d.2 with⟨rfl,rfl⟩|⟨b,a,cur,rfl,_,_,e,_⟩;{exact⟨none,0,rfl,λd=>by omega,by omega⟩};exact⟨_,a,rfl,λ_=>⟨b,rfl⟩,e⟩
theorem I7{size:Nat}(b:p.ownsRow w m size l n x){M:Nat}(c:M<w):l.ownBlock=none\/l.ownBlock≠σ M:=by cases hv:l.ownBlock with|none=>exact .inl rfl|some a=>have:=(b.lt a hv).1;exact .inr (by intro m;simp at m;omega)
def K2(K:Nat->Prop)(a b:Nat)(j:Nat):Prop:=K j\/(a<=j/\j<b)
theorem QH{a:Cl}(b:(p.alloc (zc a.bH a.n a.s)).grownBy t (σ w))(c:w<p.heap.size) :
 t.cell? (Ad p.heap.size 0)=σ (.bool a.bH)/\t.cell? (Ad p.heap.size 1)=σ (.int κ a.n)/\t.cell? (Ad p.heap.size 2)=σ (.string a.s):=by refine⟨b.cell ?_ (by simp;omega),b.cell ?_ (by simp;omega),b.cell ?_ (by simp;omega)⟩<;>(rw[dj _ _ _ _ rfl];rfl)
theorem Tryz.I8:(prog.info? 263).map (λa=>(a.zero,a.size,a.bytes))=σ (σ (.agg #[.bool false,.int κ 0,.string ByteArray.empty]),3,32):=by kernel_rfl
theorem K0(j:Nat->Prop)(u:Nat)(D:Δ Bool)(p:Int)(b:Δ Cl)(am:Option Addr)(i ai aC:Nat)(d:ω)(hw:eL j d u D)
 (U:0<Λ b->am=σ (Ad i ai)) (hc:kC d i ai b) (hK:0<Λ b->j i) (oI:∀a∈b,Aj a) (a3:Λ b<=64) (hb:Λ D<=1000) :
 Calls prog 348 #[.agg #[],.pointer (σ (Ad u 0)),.int κ p,.slice am (Λ b) aC] d λk w'=>k=.returned (.tuple #[])/\eL j w' u (D++yF p b)/\bu j d w':=by
 have⟨i0,hi,lB,ll,kV⟩:=info_parts Tryz.I8;have a4:=@run_makeMap prog;have HO:=ak oI;clear oI;go_in;go_wp2;go_loopw[9,22] (λa1 a wr=>∃(e:Nat) (N:DataW Unit),e<=Λ b/\a=.int κ e/\Hid (I5 (pT (b.take e)) N)/\wr.ownsMap prog 263 (plainElem prog 3) (d.heap.size+1) e N/\wr.ownsRow (d.heap.size+2) 263 3 a1 (pT (b.take e)).length (bW (pT (b.take e)))/\Below d.heap.size d wr/\d.heap.size+2<=wr.heap.size)
  (λ_ a _=>Λ b - (intOf a).toNat)
 (case atStart=>refine⟨0,.map [],aB _,rfl,ak Ux,?_,eM _ _ _ _,((aj _ _).alloc (ae _) _).alloc (by simp) _,by simp⟩;have:=World.ownsMap_made (H:=Unit) (d.alloc (.cells #[] 342)) prog 263 (plainElem prog 3);simpa using this);case round=>
  obtain⟨e,N,GY,rfl,F,T,A,r,qY⟩:=hrel;by_cases cK:e<Λ b
  .have gY:=aX.2 cK;obtain⟨a,M⟩:∃a,b[e]?=σ a:=⟨b[e],af cK⟩;obtain rfl:=U (by omega);have⟨m,c1,c2⟩:=hc e a M;have t:i<d.heap.size:=bT _ _ m;have a2:i<wr.heap.size:=aw t r.size;rw[<- r.cell (p:=(Ad i _)) t]at m c1 c2;have w:=HO.J a (aq M);have QI:=D5 a w;have C:=F.J.2 a w;have ao:=D6 (b.take e);rw[bZ]at ao;have ap:pT (b.take (e+1))=xt (pT (b.take e)) a:=(by rw[iG M,YH]);generalize pT (b.take e)=es at *;have al:=ak ap;have HM:=w;have P:=r;have HI:=ak M;have o:=A;have z:=ak (T.alloc (zc a.bH a.n a.s));have H:=ak QI;clear ap w r M A T QI U hK;obtain⟨va,eH,rfl,-,aT⟩:=ti o;cases g:known es a
   .rw[g]at C;have G:=C.1;have y:=ak g;have HH:=ak G;clear C g G;go_wp2_with(first|(at_lookup;refine wpList_lookup_own_ok_int _ rfl _ _ 471 rfl 263 3 κ Tryz.Hc underlying471 underlying3 (Tryz.acy _) (d.heap.size+1) e _ rfl z.J _ _ rfl H.J ?_;intro q B L;rw[HH.J])|(at_mapUpdate;refine wpList_mapUpdate_own _ rfl _ _ _ 471 rfl 263 3 Tryz.Hc underlying471 _ (d.heap.size+1) e _ rfl z.J (by unfold maxLen;omega) _ _ _ rfl rfl H.J _ [] (plainElem_int underlying3 (WalkArith.wf_i64 (by omega))) ?_;intro w1 Mq x;clear B L;have⟨k0,k1,k2⟩:=QH x (by omega))|(at_builtin;refine ef _ rfl _ _ 247 rfl (d.heap.size+2) 263 i0 _ 3 32 underlying247 hi lB ll kV rfl (by decide) _ _ _ rfl (((o.alloc (zc a.bH a.n a.s)).kept x (I7 o (by omega))).alloc (zc a.bH a.n a.s)) (Ad w1.heap.size 0) 1 1 [.bool a.bH,.int κ a.n,.string a.s] rfl rfl ?c1 ?c2 ?c3 ?c4 ?c5 ?_));case c1=>
     intro c a0 f
     match c,f with
     |0,f=>simp at f;subst f;simp[Addr.add]
     |1,f=>simp at f;subst f;simp[Addr.add]
     |2,f=>simp at f;subst f;simp[Addr.add]
    (case c2=>intro a0 hu;simp at hu;rcases hu with rfl|rfl|rfl<;>rfl);(case c3=>unfold maxLen;omega);(case c4=>omega);(case c5=>have:=x.size;simp at this ⊢;omega);intro v' w2 D8 Q _;have jK:=I7 o (M:=d.heap.size+1) (by omega);have kz:∀v,(Value.slice va (Λ es) eH).ownBlock=σ v->d.heap.size<=v:=λv hg=>by have:=(o.lt v hg).1;omega
    have s1:=x.size;have s2:=Q.size;simp only[World.size_alloc]at s1 s2;have XG:=(Mq.alloc (zc a.bH a.n a.s)).kept Q (by rcases jK with l|l;rw[l];simp;exact Ne.symm l);have iP:=(((P.alloc P.size (zc a.bH a.n a.s)).grown x (by simp;omega) (λc f=>by cases f;omega)).alloc (by omega) (zc a.bH a.n a.s)).grown Q (by simp;omega) kz;clear jK kz Mq x Q k0 k1 k2 m c1 c2;go_wp2;go_roundw;(case rel=>have k:pT (b.take (e+1))=es++[a]:=(by rw[al.J,xt,y.J];rfl);refine⟨e+1,_,by omega,by go_num,by rw[k];exact ak (F.J.add HM y.J),XG,?_,iP,by omega⟩;rw[k,F7,au];exact D8);case measure=>simp[intOf];omega
   rw[g]at C;have G:=C.1;have y:=ak g;have HH:=ak G;clear C g G;go_wp2_with(first|(at_lookup;refine wpList_lookup_own_ok_int _ rfl _ _ 471 rfl 263 3 κ Tryz.Hc underlying471 underlying3 (Tryz.acy _) (d.heap.size+1) e _ rfl z.J _ _ rfl H.J ?_;intro q B L;rw[HH.J];clear B L)|fail);go_roundw;(case rel=>have k:pT (b.take (e+1))=es:=(by rw[al.J,xt,y.J];rfl);refine⟨e+1,N,by omega,by go_num,by rw[k];exact F,z.J.mono (by omega),by rw[k];exact o.alloc _,P.alloc P.size _,by simp;omega⟩);case measure=>simp[intOf];omega
  rename ω=>wa
  obtain rfl:e=Λ b:=by omega
  rw[aQ (ae _)]at F A;have ao:=D6 b;have rA:∀a∈pT b,Aj a:=λa l=>HO.J a (I3 l);have g:∀a∈b,known (pT b) a=true:=λa l=>I4 l;have HE:=ak (show yF p b=eu (pT b).length 8++jo p (pT b)++lW (pT b) b from rfl);generalize pT b=es at *;have aa:=ak rA;have y:=ak g;obtain⟨va,eH,rfl,QJ,aT⟩:=ti A;have Z:d.grownBy wa none:=nG r;have HA:=hw.also (K':=K2 j d.heap.size wa.heap.size) Z (λc f=>f);have OO:Hid (kC wa i ai b):=by
   intro c a f;have⟨I,h2,s⟩:=hc c a f;have t:i<d.heap.size:=bT _ _ I;exact⟨(r.cell (p:=(Ad i _)) t).trans I,(r.cell (p:=(Ad i _)) t).trans h2,(r.cell (p:=(Ad i _)) t).trans s⟩
  have o:=A;have z:=ak T;have ar:=bu.uN (K:=j) Z hw.old;have av:=ak QJ;clear rA g A T r Z QJ;go_wp21;refine(oe _ u D _ _ _ HA (by omega) (by omega) (by omega) (by rw[show Int.toNat 8=8 from rfl];omega)).mono ?_;rintro k w1 ⟨rfl,I,h2⟩;rw[show Int.toNat 8=8 from rfl,cm]at I;go_wp2;go_loopw[50] (λa w2=>∃c:Nat,c<=Λ es/\a=.int κ c/\Hid (eL (K2 j d.heap.size wa.heap.size) w2 u (D++eu (Λ es) 8++jo p (es.take c)))/\Hid (bu (K2 j d.heap.size wa.heap.size) wa w2)) (λa _=>Λ es - (intOf a).toNat)
  case atStart=>exact⟨0,aB _,rfl,by simpa[jo,Hid]using I,h2⟩
  case round=>
   obtain⟨c,f,rfl,Y,IG⟩:=hrel;by_cases E:c<Λ es
   . have PA:=aX.2 E
     obtain⟨v,rfl⟩:=av.J (by omega);obtain⟨a,n⟩:∃a,es[c]?=σ a:=⟨es[c],af E⟩;have tF:=o.lt v rfl;have⟨m,c1,c2⟩:=(Bg o).kept IG.J (.inr ⟨by omega,tF.2⟩) c a n;have t:v<wr.heap.size:=bT _ _ m;have w:=aa.J a (aq n);have V:=tL p (es.take c) (λad hd=>aa.J ad (iE hd));rw[bZ]at V;have HJ:=ak n;clear n tF;rw[gD]at m c1 c2;go_wp21;refine(Ai _ u _ p a _ (Y.J.alloc _) w.1 (by have:=w.2;omega) (by simp only[List.length_append,cA];omega)).mono ?_;rintro k X ⟨rfl,s,K⟩;have H3:=s;have H4:=(IG.J.alloc Y.J.old _).trans K;clear s K V m c1 c2;go_wp2;go_roundw
     case rel=>
      refine⟨c+1,by omega,by go_num,?_,H4⟩;rw[iG HJ.J,tg,<- cC];exact H3
     case measure=>simp[intOf];omega
   . obtain rfl:c=Λ es:=by omega
     rw[aQ (ae _)]at Y;go_wp21;refine(Ap (Λ es) _ (by omega)).mono ?_;rintro k X ⟨rfl,rfl⟩;have a5:=WG (Λ es) (by omega);go_wp2;go_loopw[64] (λa X=>∃c:Nat,c<=Λ b/\a=.int κ c/\Hid (eL (K2 j d.heap.size wa.heap.size) X u (D++eu (Λ es) 8++jo p es++lW es (b.take c)))/\Hid (bu (K2 j d.heap.size wa.heap.size) wa X)) (λa _=>Λ b - (intOf a).toNat)
     case atStart=>exact⟨0,aB _,rfl,by simpa[lW,Hid]using Y.J,IG⟩
     case round=>
      obtain⟨c,f,rfl,R,O⟩:=hrel;by_cases E:c<Λ b
      . have PA:=aX.2 E
        obtain rfl:=U (by omega);obtain⟨a,n⟩:∃a,b[c]?=σ a:=⟨b[c],af E⟩;have⟨m,c1,c2⟩:=OO.J.kept O.J (.inl (hK (by omega))) c a n;have t:i<wr.heap.size:=bT _ _ m;have ag:=HO.J a (aq n);have g:=y.J a (aq n);have B:=(F.J.2 a ag).2 g;have zi:=D7 g;have ur:=ak B;have HJ:=ak n;have H:=ak (D5 a ag);have ax:=(KZ z.J (O.J.block (d.heap.size+1) (.inr ⟨by omega,by omega⟩))).alloc (zc a.bH a.n a.s);have V:=tL p es (λad hd=>aa.J ad hd);have ab:=wF es (b.take c);rw[bZ]at ab;have an:min c (Λ b)*pw (Λ es)<=64*8:=jr (by omega) (by omega);have wR:Hid ((lW es (b.take c)).length<=512):=by rw[ab];exact an
        clear B n g ag U hK ab an;generalize hq:cE es a=q at *;have HQ:=ak hq;clear hq;go_wp2_with(first|(at_lookup;refine wpList_lookup_own_int _ rfl _ _ 471 rfl 263 3 κ Tryz.Hc underlying471 underlying3 (Tryz.acy _) (d.heap.size+1) (Λ b) _ rfl ax _ _ rfl H.J ?_;intro q' ac L;rw[ur.J]at ac;obtain rfl:(q:Int)=q':=by simpa using ac)|fail);clear ac L;refine(oe _ u _ _ _ _ (R.J.alloc _) (by omega) (by omega) (by omega) (by have:=wR.J;simp only[List.length_append,cA,Int.toNat_natCast];omega)).mono ?_;rintro k w4 ⟨rfl,s,K⟩;rw[cm,cm]at s;have H3:=s;have H4:=(O.J.alloc R.J.old _).trans K;clear s K V m c1 c2;go_wp2;go_roundw
        case rel=>
         refine⟨c+1,by omega,by go_num,?_,H4⟩;rw[iG HJ.J,Ao,HQ.J,<- cC];exact H3
        case measure=>simp[intOf];omega
      . obtain rfl:c=Λ b:=by omega
        rw[aQ (ae _)]at R;go_wp2;go_end0;refine⟨rfl,?_,ar.trans (O.J.mono (λ_ l=>.inl l))⟩;rw[HE.J];have:=R.J.less (K':=j) (λ_ l=>.inl l);simpa only[List.append_assoc]using this
end S
end
