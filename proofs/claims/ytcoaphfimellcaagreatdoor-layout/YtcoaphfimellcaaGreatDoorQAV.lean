import Derived.Test.YtcoaphfimellcaaGreatDoorQAT
import Derived.DeepKeys4
set_option maxHeartbeats 0
set_option maxRecDepth 100000
namespace Go.Proofs.YtcoaphfimellcaaGreatDoor
open Go.RowKit
open _root_.Go.Proofs.Tryz
open Option renaming some→σ,none→ν
open Go.IntKind renaming i64→κ
open Go.Ending renaming returned→τ
open Go.Obj renaming cells→ξ
open Go renaming World→ω,Value→υ
open Go.RowKit renaming Below→δ
variable{w n i:Nat}{p t:ω}{m:TypeId}{x:List υ}{v:Program}{l:υ}
section
open Go.Maps Go.WideMaps
namespace S
theorem Tryz.laidOut:laidOutB prog=true:=by kernel_rfl
theorem Tryz.agS:(229:TypeId)<prog.types.size:=jY (by kernel_rfl)
theorem Tryz.aiY:(match prog.underlying 229 with|some (.array _ _)|some (.struct _)=>true|_=>false)=true:=by kernel_rfl
theorem Tryz.agT:KeyLaw prog 229:=deep_law_laid Tryz.laidOut (m:=2) (by omega) Tryz.agS (by kernel_rfl) Tryz.aiY
theorem Tryz.Gd:Keyed prog 229:=Keyed.of_law Tryz.agT
theorem Tryz.aeK:prog.cellsOf 229=3:=by kernel_rfl
theorem Tryz.aiZ:prog.cellsOf 3=1:=by kernel_rfl
theorem Tryz.ai0:prog.cellsOf 4=1:=by kernel_rfl
theorem Tryz.RB:prog.cellsOf 9=1:=by kernel_rfl
theorem Tryz.Wf:prog.keyType 229=true:=by kernel_rfl
theorem Tryz.aak(a:ω):(zeroValue 3).run prog a=.ok (.int κ 0) a:=by kernel_rfl
def kl(c:Cl):Lit:=.string (keyBytes [.bool c.null,.int κ c.n,.string c.s.data.toList])
theorem Oc{b:Int}(a:cK b):(Lit.int κ b).wf=true:=by unfold cK at a;exact WalkArith.wf_i64 a
theorem Od(m:v.types.size=w+1)
 (i:v.underlying 229=σ (TypeDesc.struct #[{ name:= "Null",type:=4,offset:=0,embedded:=false,tag:= "",pkgPath:= "",byteOffset:=0 },{ name:= "N",type:=3,offset:=1,embedded:=false,tag:= "",pkgPath:= "",byteOffset:=8 },{ name:= "S",type:=9,offset:=2,embedded:=false,tag:= "",pkgPath:= "",byteOffset:=16 }]))
 (j:v.underlying 4=σ .bool) (g:v.underlying 3=σ (.int κ)) (k:v.underlying 9=σ .string) (l:v.keyType 229=true) (d:v.cellsOf 229=3) (e:v.cellsOf 4=1) (c:v.cellsOf 3=1) (f:v.cellsOf 9=1)
 (a:Cl) (b:yM a):keyOf v 229 (.agg #[.bool a.null,.int κ a.n,.string a.s])=σ (kl a):=by
 have o:=Oc b.1;have n:a.s.size<=maxLen:=by have:=b.2;unfold maxLen;omega
 simp[keyOf,i,l,Value.formed,d,Value.cells,Program.keyLits,m,j,g,k,c,e,f,o,n,kl]
theorem Cz(a:Cl)(b:yM a):keyOf prog 229 (.agg #[.bool a.null,.int κ a.n,.string a.s])=σ (kl a):=by obtain⟨d,c⟩:=qP.2 (du (aK _) Tryz.agS);exact Od c underlying229 underlying4 underlying3 underlying9 Tryz.Wf Tryz.aeK Tryz.ai0 Tryz.aiZ Tryz.RB a b
theorem ai1{a b:Cl}(f:yM a)(g:yM b)(e:kl a=kl b):a=b:=by have d:=Tryz.agT.inj (Cz a f) (e ▸ Cz b g);simp only[Value.agg.injEq]at d;have c:=bn Array.toList d;simp at c;exact Cl.ext' c.1 c.2.1 c.2.2
def known(es:List Cl)(c:Cl):Bool:=es.any λd=>d.beq c
def place(es:List Cl)(c:Cl):Nat:=es.findIdx λd=>d.beq c
def vL(es:List Cl)(c:Cl):List Cl:=if known es c then es else es++[c]
def oM(cs:List Cl):List Cl:=cs.foldl vL []
theorem Wg(b:List Cl)(a:Cl):oM (b++[a])=vL (oM b) a:=by simp[oM]
theorem CA(a:List Cl):(oM a).length<=a.length:=by
 suffices H:∀(a b:List Cl),(a.foldl vL b).length<=b.length+a.length by simpa[oM]using H a []
 intro a
 induction a with
 |nil=>simp
 |cons c f d=>
   intro b;rw[jh];have:=d (vL b c);have e:(vL b c).length<=b.length+1:=by unfold vL;split<;>simp
   simp only[List.length_cons];omega
theorem Hc{b:List Cl}{c:Cl}(a:c∈oM b):c∈b:=by
 suffices H:∀(b d:List Cl),c∈b.foldl vL d->c∈d\/c∈b by simpa using H b [] a
 intro b
 induction b with
 |nil=>intro d a;exact .inl a
 |cons f g e=>
   intro d a;rw[jh]at a;rcases e _ a with a|a
   . unfold vL at a
     split at a
     . exact .inl a
     . rcases bP.1 a with a|a
       . exact .inl a
       . simp at a;exact .inr (by simp[a])
   . exact .inr (by simp[a])
theorem D1(c:List Cl)(a:Cl):known c a=true↔a∈c:=by simp only[known,List.any_eq_true];constructor;{rintro⟨f,e,b⟩;rw[Cl.beq_iff]at b;subst b;exact e};intro d;exact⟨a,d,(Cl.beq_iff a a).2 rfl⟩
theorem Hd{b:List Cl}{c:Cl}(a:c∈b):known (oM b) c=true:=by
 suffices H:∀(b d:List Cl),(c∈d\/c∈b)->c∈b.foldl vL d by exact(D1 _ _).2 (H b [] (.inr a))
 intro b
 induction b with
 |nil=>intro d a;simpa using a
 |cons f i g=>
   intro d a;rw[jh];apply g;by_cases e:c∈i
   . exact .inr e
   . refine .inl ?_
     unfold vL;rcases a with a|a
     . split
       . exact a
       . exact eF _ a
     . have:c=f:=by simpa[e]using a
       subst this;split
       . exact(D1 _ _).1 ‹_›
       . simp
theorem CB{a:List Cl}{b:Cl}(c:known a b=true):place a b<a.length:=by unfold place;rw[List.findIdx_lt_length];simpa[known]using c
theorem Wh{a:List Cl}{b:Cl}(e:known a b=true):a[place a b]?=σ b:=by have d:=CB e;rw[af d];have:=rY (xs:=a) (p:=λc=>c.beq b) (w:=(show a.findIdx (λc=>c.beq b)<a.length from d));rw[Cl.beq_iff]at this;exact bn σ this
def He(es:List Cl)(D:DataW Unit):Prop:=
 IsMap D/\∀c,yM c->Maps.has D (kl c)=known es c/\(known es c=true->D.atKey (kl c) (.lit (.int κ 0))=.lit (.int κ (place es c:Int)))
theorem RD:He [] (.map []):=⟨isMap_empty,λb _=>⟨rfl,λa=>by simp[known]at a⟩⟩
theorem He.add{b:List Cl}{l:DataW Unit}(d:He b l){c:Cl}(o:yM c)(p:known b c=false):He (b++[c]) (l.put (kl c) (.lit (.int κ (b.length:Int)))):=by have f:WideAt.IsKeyLit (kl c):=trivial;refine⟨d.1.put _ _,λa k=>?_⟩;by_cases g:a=c;{subst g;have i:known (b++[a]) a=true:=(D1 _ _).2 (by simp);rw[has_put_same d.1 f,i];refine⟨rfl,λ_=>?_⟩;rw[atKey_put_same d.1 f];have:place (b++[a]) a=b.length:=(by unfold place;rw[List.findIdx_append];have n:b.findIdx (λe=>e.beq a)=b.length:=(by apply List.findIdx_eq_length.2;intro e r;have:=lP.1 (show b.any (λe=>e.beq a)=false from p) e r;simpa using this);rw[n,aE (by omega)];simp[List.findIdx_cons,(Cl.beq_iff a a).2 rfl]);rw[this]};have m:kl a≠kl c:=λd=>g (ai1 k o d);rw[has_put_other m,atKey_put_other m];have j:c.beq a=false:=(by cases j:c.beq a;{rfl};exact absurd ((Cl.beq_iff _ _).1 j).symm g);have i:known (b++[c]) a=known b a:=(by simp[known,j]);rw[i];refine⟨(d.2 a k).1,λf=>?_⟩;rw[(d.2 a k).2 f];have:place (b++[c]) a=place b a:=(by unfold place;rw[List.findIdx_append,aF (show b.findIdx (λe=>e.beq a)<b.length from CB f)]);rw[this]
def pw(n:Nat):Nat:=bitLen (max n 1 - 1)
theorem UG(a:Nat)(b:a<=255):pw a<=8:=bitLen_le _ 8 (by omega)
theorem amR(c:w<n):w<2 ^ pw n:=by
 have a:=DV (max n 1 - 1);have b:w<=max n 1 - 1:=by omega
 exact du b a
def kV(es:List Cl)(cs:List Cl):List Bool:=cs.flatMap λc=>bitsOf (place es c) (pw es.length)
theorem yO(a c:List Cl)(b:Cl):kV a (c++[b])=kV a c++bitsOf (place a b) (pw a.length):=by simp[kV,List.flatMap_append]
theorem vf(a b:List Cl):(kV a b).length=b.length*pw a.length:=by
 induction b with
 |nil=>simp[kV]
 |cons c d f=>
   have e:kV a (c::d)=bitsOf (place a c) (pw a.length)++kV a d:=rfl;rw[e,az,f,bM,a7,qy];omega
def xc(k:Int)(cs:List Cl):List Bool:=bitsOf (oM cs).length 8++gZ k (oM cs)++kV (oM cs) cs
def bI(cs:List Cl):List υ:=cs.flatMap λc=>[.bool c.null,.int κ c.n,.string c.s]
theorem tJ(b:List Cl):(bI b).length=b.length*3:=by
 induction b with
 |nil=>rfl
 |cons a c e=>have d:bI (a::c)=[.bool a.null,.int κ a.n,.string a.s]++bI c:=rfl;rw[d,az,e,a7];simp;omega
theorem EW(b:List Cl)(a:Cl):bI (b++[a])=bI b++[.bool a.null,.int κ a.n,.string a.s]:=by simp[bI,List.flatMap_append]
theorem Hf{b:List Cl}{i:Nat}{c:Cl}(d:b[i]?=σ c):(bI b)[i*3]?=σ (.bool c.null)/\(bI b)[i*3+1]?=σ (.int κ c.n)/\(bI b)[i*3+2]?=σ (.string c.s):=by
 induction b generalizing i with
 |nil=>simp at d
 |cons a e l=>
   have j:bI (a::e)=[.bool a.null,.int κ a.n,.string a.s]++bI e:=rfl
   cases i with
   |zero=>simp at d;subst d;rw[j];simp
   |succ i=>
     have k:=l (i:=i) (by simpa using d);rw[j];have f:∀g,([Value.bool a.null,.int κ a.n,.string a.s]++bI e)[g+3]?=(bI e)[g]?:=λg=>by
      rw[bp (by simp)];simp
     rw[show(i+1)*3=i*3+3 by omega,show i*3+3+1=(i*3+1)+3 by omega,show i*3+3+2=(i*3+2)+3 by omega,f,f,f];exact k
theorem zR{d:Nat}{a:List Cl}(b:p.ownsRow w m 3 (.slice (σ ⟨n,0,ν⟩) i d) i (bI a)):mT p n 0 a:=by
 intro j k c;have l:j<a.length:=(aj.1 c).1;have o:a.length=i:=by have:=b.1;rw[tJ]at this;omega
 obtain⟨e,f,g⟩:=Hf c;rw[fK];exact⟨(b.cellAt _ (by omega)).trans e,(b.cellAt _ (by omega)).trans f,(b.cellAt _ (by omega)).trans g⟩
theorem JI{b:Type}{c:υ->Option (DataW b×List MemPlace)}{a:DataW b}(f:p.ownsMap v m c w n a)(j:t.heap[w]?=p.heap[w]?):t.ownsMap v m c w n a:=by obtain⟨e,d,g,i⟩:=f;exact⟨e,d,j.trans g,i⟩
end S
namespace S
theorem UH(a:Int)(c:ω)(e:0<=a)(f:a<18446744073709551616) :
 Calls prog 291 #[.int .u64 a] c λb d=>b=τ (.int κ (bitLen a.toNat:Int))/\c=d:=by go_in;go_wp2_with(go_at_call 235;refine(DX _ _ e f).mono ?_;rintro b d ⟨rfl,rfl⟩);go_ret;exact⟨rfl,rfl⟩
theorem yP(a:Nat)(f:ω)(k:a<=255) :
 Calls prog 338 #[.int κ (a:Int)] f λb c=>b=τ (.int κ (pw a:Int))/\f=c:=by have d:(a:Int)<1->(bitLen (0:Int).toNat:Int)=(pw a:Int):=(by intro j;have:a=0:=(by omega);subst this;rfl);have e:(1:Int)<=a->(bitLen (a - 1):Int)=(pw a:Int):=(by intro j;have:a - 1=max a 1 - 1:=(by omega);rw[this];rfl);have g:=ak d;have i:=ak e;clear d e;go_in;go_wp2_with fail;{refine(UH _ _ (by omega) (by omega)).mono ?_;rintro b c ⟨rfl,rfl⟩;go_wp2;go_ret;exact⟨bn Ending.returned (bn (Value.int IntKind.i64) (g.J (by assumption))),rfl⟩};refine(UH _ _ (by omega) (by omega)).mono ?_;rintro b c ⟨rfl,rfl⟩;go_wp2;go_ret;exact⟨bn Ending.returned (bn (Value.int IntKind.i64) (i.J (by assumption))),rfl⟩
theorem rA{size:Nat}(d:p.ownsRow w m size l n x):∃c a,l=.slice c n a/\(0<n->∃b,c=σ (Ad b 0))/\n<=a:=by rcases d.2 with⟨rfl,rfl⟩|⟨b,a,cur,rfl,_,_,e,_⟩;{exact⟨ν,0,rfl,λd=>by omega,by omega⟩};exact⟨_,a,rfl,λ_=>⟨b,rfl⟩,e⟩
theorem Hg{size:Nat}(b:p.ownsRow w m size l n x){M:Nat}(c:M<w):l.ownBlock=ν\/l.ownBlock≠σ M:=by
 cases hv:l.ownBlock with
 |none=>exact .inl rfl
 |some a=>have:=(b.lt a hv).1;exact .inr (by intro m;simp at m;omega)
def K2(K:Nat->Prop)(a b:Nat)(j:Nat):Prop:=K j\/(a<=j/\j<b)
theorem Oe{a:Cl}(b:(p.alloc (ru a.null a.n a.s)).grownBy t (σ w))(c:w<p.heap.size) :
 t.cell? (Ad p.heap.size 0)=σ (.bool a.null)/\t.cell? (Ad p.heap.size 1)=σ (.int κ a.n)/\t.cell? (Ad p.heap.size 2)=σ (.string a.s):=by refine⟨b.cell ?_ (by simp;omega),b.cell ?_ (by simp;omega),b.cell ?_ (by simp;omega)⟩<;>(rw[cI _ _ _ _ rfl];rfl)
theorem Tryz.Hh:(prog.info? 229).map (λa=>(a.zero,a.size,a.bytes))=σ (σ (.agg #[.bool false,.int κ 0,.string ByteArray.empty]),3,32):=by kernel_rfl
theorem JJ(j:Nat->Prop)(u:Nat)(D:List Bool)(p:Int)(b:List Cl)(ao:Option Addr)(i am a2:Nat)(d:ω)(hw:Writer j d u D)
 (T:0<b.length->ao=σ (Ad i am)) (hc:mT d i am b) (hK:0<b.length->j i) (mQ:∀a∈b,yM a) (a8:b.length<=64) (hb:D.length<=1000) :
 Calls prog 337 #[.agg #[],.pointer (σ (Ad u 0)),.int κ p,.slice ao b.length a2] d λk w'=>k=τ (.tuple #[])/\Writer j w' u (D++xc p b)/\aX j d w':=by
 obtain⟨i0,hi,lC,lI,kQ⟩:=info_parts Tryz.Hh;have a9:=@run_makeMap prog;have HO:=ak mQ;clear mQ;go_in;go_wp2;go_loopw[9,22] (λa5 a wr=>∃(e:Nat) (N:DataW Unit),e<=b.length/\a=.int κ e/\Hid (He (oM (b.take e)) N)/\wr.ownsMap prog 229 (plainElem prog 3) (d.heap.size+1) e N/\wr.ownsRow (d.heap.size+2) 229 3 a5 (oM (b.take e)).length (bI (oM (b.take e)))/\δ d.heap.size d wr/\d.heap.size+2<=wr.heap.size)
  (λ_ a _=>b.length - (intOf a).toNat)
 (case atStart=>refine⟨0,.map [],aK _,rfl,ak RD,?_,gR _ _ _ _,((ah _ _).alloc (ae _) _).alloc (by simp) _,by simp⟩;have:=World.ownsMap_made (H:=Unit) (d.alloc (ξ #[] 369)) prog 229 (plainElem prog 3);simpa using this);case round=>
  obtain⟨e,N,Jg,rfl,E,R,A,r,nQ⟩:=hrel;by_cases cL:e<b.length
  .have ju:(e:Int)<(b.length:Int):=(by omega);obtain⟨a,L⟩:∃a,b[e]?=σ a:=⟨b[e],af cL⟩;obtain rfl:=T (by omega);obtain⟨m,c1,c2⟩:=hc e a L;have t:i<d.heap.size:=bz _ _ m;have a6:i<wr.heap.size:=ai t r.size;rw[<- r.cell (p:=(Ad i _)) t]at m c1 c2;have w:=HO.J a (aA L);have Og:=Cz a w;have B:=E.J.2 a w;have ar:=CA (b.take e);rw[bV]at ar;have Y3:oM (b.take (e+1))=vL (oM (b.take e)) a:=(by rw[gj L,Wg]);generalize oM (b.take e)=es at *;have an:=ak Y3;have HM:=w;have P:=r;have HI:=ak L;have o:=A;have z:=ak (R.alloc (ru a.null a.n a.s));have F:=ak Og;clear Y3 w r L A R Og T hK;obtain⟨va,dq,rfl,-,a3⟩:=rA o;cases g:known es a
   .rw[g]at B;have G:=B.1;have y:=ak g;have HH:=ak G;clear B g G;go_wp2_with(first|(at_lookup;refine wpList_lookup_own_ok_int _ rfl _ _ 463 rfl 229 3 κ Tryz.Gd underlying463 underlying3 (Tryz.aak _) (d.heap.size+1) e _ rfl z.J _ _ rfl F.J ?_;intro q C K;rw[HH.J])|(at_mapUpdate;refine wpList_mapUpdate_own _ rfl _ _ _ 463 rfl 229 3 Tryz.Gd underlying463 _ (d.heap.size+1) e _ rfl z.J (by unfold maxLen;omega) _ _ _ rfl rfl F.J _ [] (plainElem_int underlying3 (WalkArith.wf_i64 (by omega))) ?_;intro w1 ap x;clear C K;obtain⟨k0,k1,k2⟩:=Oe x (by omega))|(at_builtin;refine qC _ rfl _ _ 230 rfl (d.heap.size+2) 229 i0 _ 3 32 underlying230 hi lC lI kQ rfl (by decide) _ _ _ rfl (((o.alloc (ru a.null a.n a.s)).kept x (Hg o (by omega))).alloc (ru a.null a.n a.s)) (Ad w1.heap.size 0) 1 1 [.bool a.null,.int κ a.n,.string a.s] rfl rfl ?c1 ?c2 ?c3 ?c4 ?c5 ?_));case c1=>
     intro c a4 f
     match c,f with
     |0,f=>simp at f;subst f;simp[Addr.add]
     |1,f=>simp at f;subst f;simp[Addr.add]
     |2,f=>simp at f;subst f;simp[Addr.add]
    (case c2=>intro a4 hu;simp at hu;rcases hu with rfl|rfl|rfl<;>rfl);(case c3=>unfold maxLen;omega);(case c4=>omega);(case c5=>have:=x.size;simp at this ⊢;omega);intro v' w2 ER Q _;have fE:=Hg o (M:=d.heap.size+1) (by omega);have eH:∀v,(Value.slice va es.length dq).ownBlock=σ v->d.heap.size<=v:=λv hg=>by have:=(o.lt v hg).1;omega
    have s1:=x.size;have s2:=Q.size;simp only[World.size_alloc]at s1 s2;have Wm:=(ap.alloc (ru a.null a.n a.s)).kept Q (by rcases fE with l|l;rw[l];simp;exact Ne.symm l);have gq:=(((P.alloc P.size (ru a.null a.n a.s)).grown x (by simp;omega) (λc f=>by cases f;omega)).alloc (by omega) (ru a.null a.n a.s)).grown Q (by simp;omega) eH;clear fE eH ap x Q k0 k1 k2 m c1 c2;go_wp2;go_roundw;(case rel=>have k:oM (b.take (e+1))=es++[a]:=(by rw[an.J,vL,y.J];rfl);refine⟨e+1,_,by omega,by go_num,by rw[k];exact ak (E.J.add HM y.J),Wm,?_,gq,by omega⟩;rw[k,EW,az];exact ER);case measure=>simp[intOf];omega
   rw[g]at B;have G:=B.1;have y:=ak g;have HH:=ak G;clear B g G;go_wp2_with(first|(at_lookup;refine wpList_lookup_own_ok_int _ rfl _ _ 463 rfl 229 3 κ Tryz.Gd underlying463 underlying3 (Tryz.aak _) (d.heap.size+1) e _ rfl z.J _ _ rfl F.J ?_;intro q C K;rw[HH.J];clear C K)|fail);go_roundw;(case rel=>have k:oM (b.take (e+1))=es:=(by rw[an.J,vL,y.J];rfl);refine⟨e+1,N,by omega,by go_num,by rw[k];exact E,z.J.mono (by omega),by rw[k];exact o.alloc _,P.alloc P.size _,by simp;omega⟩);case measure=>simp[intOf];omega
  rename ω=>wa
  obtain rfl:e=b.length:=by omega
  rw[aI (ae _)]at E A;have ar:=CA b;have sK:∀a∈oM b,yM a:=λa l=>HO.J a (Hc l);have g:∀a∈b,known (oM b) a=true:=λa l=>Hd l;have HE:=ak (show xc p b=bitsOf (oM b).length 8++gZ p (oM b)++kV (oM b) b from rfl);generalize oM b=es at *;have aa:=ak sK;have y:=ak g;obtain⟨va,dq,rfl,Rr,a3⟩:=rA A;have Y:d.grownBy wa ν:=mD r;have HA:=hw.also (K':=K2 j d.heap.size wa.heap.size) Y (λc f=>f);have V5:Hid (mT wa i am b):=by
   intro c a f;obtain⟨H,h2,s⟩:=hc c a f;have t:i<d.heap.size:=bz _ _ H;exact⟨(r.cell (p:=(Ad i _)) t).trans H,(r.cell (p:=(Ad i _)) t).trans h2,(r.cell (p:=(Ad i _)) t).trans s⟩
  have o:=A;have z:=ak R;have ax:=aX.tq (K:=j) Y hw.old;have aC:=ak Rr;clear sK g A R r Y Rr;go_wp2_with fail;refine(mX _ u D _ _ _ HA (by omega) (by omega) (by omega) (by rw[show Int.toNat 8=8 from rfl];omega)).mono ?_;rintro k w1 ⟨rfl,H,h2⟩;rw[show Int.toNat 8=8 from rfl,bN]at H;go_wp2;go_loopw[50] (λa w2=>∃c:Nat,c<=es.length/\a=.int κ c/\Hid (Writer (K2 j d.heap.size wa.heap.size) w2 u (D++bitsOf es.length 8++gZ p (es.take c)))/\Hid (aX (K2 j d.heap.size wa.heap.size) wa w2)) (λa _=>es.length - (intOf a).toNat)
  case atStart=>exact⟨0,aK _,rfl,by simpa[gZ,Hid]using H,h2⟩
  case round=>
   obtain⟨c,f,rfl,V,X⟩:=hrel;by_cases RE:c<es.length
   . have a0:(c:Int)<(es.length:Int):=by omega
     obtain⟨v,rfl⟩:=aC.J (by omega);obtain⟨a,n⟩:∃a,es[c]?=σ a:=⟨es[c],af RE⟩;have av:=o.lt v rfl;obtain⟨m,c1,c2⟩:=(zR o).kept X.J (.inr ⟨by omega,av.2⟩) c a n;have t:v<wr.heap.size:=bz _ _ m;have w:=aa.J a (aA n);have U:=rM p (es.take c) (λad hd=>aa.J ad (eG hd));rw[bV]at U;have HJ:=ak n;clear n av;rw[fK]at m c1 c2;go_wp2_with fail;refine(yL _ u _ p a _ (V.J.alloc _) w.1 (by have:=w.2;omega) (by simp only[List.length_append,bM];omega)).mono ?_;rintro k W ⟨rfl,s,I⟩;have Z:=s;have H4:=(X.J.alloc V.J.old _).trans I;clear s I U m c1 c2;go_wp2;go_roundw
     case rel=>
      refine⟨c+1,by omega,by go_num,?_,H4⟩;rw[gj HJ.J,rz,<- cj];exact Z
     case measure=>simp[intOf];omega
   . obtain rfl:c=es.length:=by omega
     rw[aI (ae _)]at V;go_wp2_with fail;refine(yP es.length _ (by omega)).mono ?_;rintro k W ⟨rfl,rfl⟩;have Y1:=UG es.length (by omega);go_wp2;go_loopw[64] (λa W=>∃c:Nat,c<=b.length/\a=.int κ c/\Hid (Writer (K2 j d.heap.size wa.heap.size) W u (D++bitsOf es.length 8++gZ p es++kV es (b.take c)))/\Hid (aX (K2 j d.heap.size wa.heap.size) wa W)) (λa _=>b.length - (intOf a).toNat)
     case atStart=>exact⟨0,aK _,rfl,by simpa[kV,Hid]using V.J,X⟩
     case round=>
      obtain⟨c,f,rfl,M,O⟩:=hrel;by_cases RE:c<b.length
      . have a0:(c:Int)<(b.length:Int):=by omega
        obtain rfl:=T (by omega);obtain⟨a,n⟩:∃a,b[c]?=σ a:=⟨b[c],af RE⟩;obtain⟨m,c1,c2⟩:=V5.J.kept O.J (.inl (hK (by omega))) c a n;have t:i<wr.heap.size:=bz _ _ m;have al:=HO.J a (aA n);have g:=y.J a (aA n);have C:=(E.J.2 a al).2 g;have vz:=CB g;have Q9:=ak C;have HJ:=ak n;have F:=ak (Cz a al);have a1:=(JI z.J (O.J.block (d.heap.size+1) (.inr ⟨by omega,by omega⟩))).alloc (ru a.null a.n a.s);have U:=rM p es (λad hd=>aa.J ad hd);have ab:=vf es (b.take c);rw[bV]at ab;have aq:min c b.length*pw es.length<=64*8:=lj (by omega) (by omega);have Wn:Hid ((kV es (b.take c)).length<=512):=by rw[ab];exact aq
        clear C n g al T hK ab aq;generalize hq:place es a=q at *;have HQ:=ak hq;clear hq;go_wp2_with(first|(at_lookup;refine wpList_lookup_own_int _ rfl _ _ 463 rfl 229 3 κ Tryz.Gd underlying463 underlying3 (Tryz.aak _) (d.heap.size+1) b.length _ rfl a1 _ _ rfl F.J ?_;intro q' ac K;rw[Q9.J]at ac;obtain rfl:(q:Int)=q':=by simpa using ac)|fail);clear ac K;refine(mX _ u _ _ _ _ (M.J.alloc _) (by omega) (by omega) (by omega) (by have:=Wn.J;simp only[List.length_append,bM,Int.toNat_natCast];omega)).mono ?_;rintro k w4 ⟨rfl,s,I⟩;rw[bN,bN]at s;have Z:=s;have H4:=(O.J.alloc M.J.old _).trans I;clear s I U m c1 c2;go_wp2;go_roundw
        case rel=>
         refine⟨c+1,by omega,by go_num,?_,H4⟩;rw[gj HJ.J,yO,HQ.J,<- cj];exact Z
        case measure=>simp[intOf];omega
      . obtain rfl:c=b.length:=by omega
        rw[aI (ae _)]at M;go_wp2;go_end0;refine⟨rfl,?_,ax.trans (O.J.mono (λ_ l=>.inl l))⟩;rw[HE.J];have:=M.J.less (K':=j) (λ_ l=>.inl l);simpa only[List.append_assoc]using this
end S
end
