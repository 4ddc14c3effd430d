import Derived.Test.YtcoaphfimellcaaGreatDoorFAC
import Derived.Test.YtcoaphfimellcaaGreatDoorFSH
set_option maxHeartbeats 0
set_option maxRecDepth 100000
namespace Go.Proofs.YtcoaphfimellcaaGreatDoor
open Go.RowKit
open _root_.Go.Proofs.Tryz
open Option renaming some→σ,none→ν
open Go.IntKind renaming i64→κ
open Go.Ending renaming returned→τ
open Go renaming World→ω,Value→υ
open Go.Value renaming int→ι,string→θ
variable{w l:ByteArray}{p:List UInt8}{m:List ByteArray}{x:Nat}{v r:ω}{n:Program}{i:TypeId}{t:UInt8}
def gd:List ByteArray:=[bs [60,62],bs [60,61],bs [62,61],bs [61],bs [60],bs [62],bs [40],bs [41],bs [44],bs [124],bs [58],bs [43],bs [45],bs [42],bs [47],bs [37]]
def xM:List ByteArray:=[bs [],bs [],bs [],bs [],bs []]++gd++cK
def LY(w:ω):Prop:=∀i s,xM[i]?=σ s->w.cell? ⟨2,i,ν⟩=σ (θ s)
theorem LY.below(b:LY v)(d:Below x v r)(c:2<x):LY r:=λa f e=>(d.cell (p:=⟨2,a,ν⟩) c).trans (b a f e)
def xN(l:List ByteArray)(s:ByteArray):Nat:=l.findIdx (jN s)
def aV:Tk->Nat
 |.stop=>0
 |.bad=>1
 |.name _=>2
 |.num _=>3
 |.str _=>4
 |.sign s=>5+xN gd s
 |.word s=>21+xN cK s
def dc:Tk->ByteArray
 |.name s=>s
 |.str s=>s
 |_=>⟨#[]⟩
def gP:Tk->Nat
 |.num n=>n
 |_=>0
def WM(k:Tk)(pl:Nat):List υ:=[ι κ (aV k),ι κ pl,θ (dc k),ι κ (gP k)]
def Ir(k:Tk)(pl:Nat):υ:=.agg #[ι κ (aV k),ι κ pl,θ (dc k),ι κ (gP k)]
def KZ(r:Tk×Nat):Nat:=if r.1.ends then 0 else r.2
theorem qa(a:ByteArray):a.data.toList.length=a.size:=by rw[cW];rfl
theorem PY(b:ByteArray)(a:Nat)(c:a<b.size):b.data.toList[a]?=σ b[a]:=by rw[af (by rw[qa];exact c)];rfl
theorem LZ(b:ByteArray)(c:UInt8->Bool):∀(d a:Nat),b.size - a=d->a<=b.size->aP b c a+((b.data.toList.drop a).dropWhile c).length=b.size:=by intro d;induction d with|zero=>(intro a i g;rw[iG b c a (by omega),lz (by rw[qa];omega)];simp;omega)|succ d j=>intro a i g;have e:a<b.size:=(by omega);have f:b.data.toList.drop a=b[a]::b.data.toList.drop (a+1):=(by rw[cE (by rw[qa];exact e)];rfl);rw[f,List.dropWhile_cons];cases hb:c b[a]with|true=>(rw[dQ b c a e hb];simp only[if_true];exact j (a+1) (by omega) (by omega))|false=>rw[eY b c a e hb];simp;omega
theorem TT(a:ByteArray)(g:ω)(m:a.size<=300):Calls prog 57 #[θ a] g λb i=>b=τ (ι κ (aP a bS 0))/\g=i:=by
 have j:=LZ a bS _ 0 rfl (aI _);have f:Lib.trimLeftB a.data.toList 32=a.data.toList.dropWhile bS:=(by unfold Lib.trimLeftB;congr 1;funext c;unfold bS;rw[ld,dO,dE];exact⟨λd=>by rw[d];rfl,λd=>iY.mp d⟩);rw[oN,<- f]at j;obtain⟨k,e⟩:=nm ((Lib.trimLeftB a.data.toList 32).length);have l:(ByteArray.mk (Lib.trimLeftB a.data.toList 32).toArray).size=k:=by rw[e];simp[ByteArray.size]
 rw[<- e]at j;clear f;go_in;go_wp2_with(go_at_call 75;refine(Tryz.strings_TrimLeft_one a 32 (by decide) _).mono ?_;rintro n i ⟨rfl,rfl⟩);go_ret;refine⟨?_,rfl⟩;have b:((a.size:Int) - (Lib.trimLeftB a.data.toList 32).length)=(aP a bS 0:Nat):=by rw[<- e];omega
 show Ending.returned (Value.int κ ((a.size:Int) - (Lib.trimLeftB a.data.toList 32).length))=_;rw[b]
theorem PZ(a:w.data.toList <+: p):(ByteArray.mk ⟨p⟩).extract 0 w.size=w:=by apply pN;apply o7.mp;rw[ep,jl];obtain⟨c,rfl⟩:=a;have b:w.size=w.data.toList.length:=(qa w).symm;rw[fW,b];simp
theorem alc(a:Lib.hasPrefix p w.data.toList=true):w.data.toList <+: p:=List.isPrefixOf_iff_prefix.mp a
theorem Iu{k:Nat}(c:gd[k]?=σ w)(a:Lib.hasPrefix p w.data.toList=true)(i:∀r z,r<k->gd[r]?=σ z->Lib.hasPrefix p z.data.toList=false)(j:0<(ByteArray.mk ⟨p⟩).size) :
 dZ ⟨⟨p⟩⟩ 0 j=w.size/\(ByteArray.mk ⟨p⟩).extract 0 w.size=w/\xN gd w=k:=by
 have E:k<16:=(aj.mp c).1;refine⟨?_,PZ (alc a),?_⟩
 .cases p with
  |nil=>exact absurd j (by decide)
  |cons f l=>
   have v:=λe=>i 0 _ e rfl;have x:=λe=>i 1 _ e rfl;have y:=λe=>i 2 _ e rfl;clear i;have g:k=0\/k=1\/k=2\/k=3\/k=4\/k=5\/k=6\/k=7\/k=8\/k=9\/k=10\/k=11\/k=12\/k=13\/k=14\/k=15:=(by omega);cases l with
   |nil=>
    rcases g with rfl|rfl|rfl|rfl|rfl|rfl|rfl|rfl|rfl|rfl|rfl|rfl|rfl|rfl|rfl|rfl <;>
     (cases c;simp[Lib.hasPrefix,bs,List.isPrefixOf]at a)<;>(subst a;rfl)
   |cons b l=>
    have m:dZ ⟨⟨f::b::l⟩⟩ 0 j=(if(f.toNat=60/\(b.toNat=62\/b.toNat=61))\/(f.toNat=62/\b.toNat=61)then 2 else if f.toNat∈[40,41,44,124,58,61,60,62,43,45,42,47,37]then 1 else 0):=rfl;rw[m];clear m;by_cases n:k=4;{subst n;cases c;have s:=v (by omega);have t:=x (by omega);simp[Lib.hasPrefix,bs,List.isPrefixOf]at a s t;subst a;have B:¬b.toNat=62:=λd=>s rfl (iY.mp d).symm;have C:¬b.toNat=61:=λd=>t rfl (iY.mp d).symm;simp[B,C];rfl}
    by_cases o:k=5;{subst o;cases c;have u:=y (by omega);simp[Lib.hasPrefix,bs,List.isPrefixOf]at a u;subst a;have D:¬b.toNat=61:=λd=>u rfl (iY.mp d).symm;simp[D];rfl}
    clear v x y;have A:k=0\/k=1\/k=2\/k=3\/k=6\/k=7\/k=8\/k=9\/k=10\/k=11\/k=12\/k=13\/k=14\/k=15:=(by omega);clear g n o E;rcases A with rfl|rfl|rfl|rfl|rfl|rfl|rfl|rfl|rfl|rfl|rfl|rfl|rfl|rfl <;>
     (cases c;simp[Lib.hasPrefix,bs,List.isPrefixOf]at a)<;>first|(obtain⟨F,G⟩:=a;subst F;subst G;rfl)|(subst a;rfl)
 have g:k=0\/k=1\/k=2\/k=3\/k=4\/k=5\/k=6\/k=7\/k=8\/k=9\/k=10\/k=11\/k=12\/k=13\/k=14\/k=15:=(by omega);rcases g with rfl|rfl|rfl|rfl|rfl|rfl|rfl|rfl|rfl|rfl|rfl|rfl|rfl|rfl|rfl|rfl<;>(cases c;decide)
theorem L5(k:∀(c:Nat) (n:ByteArray),gd[c]?=σ n->Lib.hasPrefix p n.data.toList=false)(j:0<(ByteArray.mk ⟨p⟩).size):dZ ⟨⟨p⟩⟩ 0 j=0:=by
 cases p with
 |nil=>exact absurd j (by decide)
 |cons b m=>
  have one:∀(c:Nat) (d:UInt8),gd[c]?=σ (bs [d])->¬b.toNat=d.toNat:=λc d E r=>by
   have:=k c _ E;have s:b=d:=iY.mp r;subst s;simp[Lib.hasPrefix,bs,List.isPrefixOf]at this
  have z:=one 3 61 rfl;have g:=one 4 60 rfl;have i:=one 5 62 rfl;have A:=one 6 40 rfl;have B:=one 7 41 rfl;have C:=one 8 44 rfl;have D:=one 9 124 rfl;have t:=one 10 58 rfl;have u:=one 11 43 rfl;have v:=one 12 45 rfl;have w:=one 13 42 rfl;have x:=one 14 47 rfl;have y:=one 15 37 rfl;clear k one;have F:(60:UInt8).toNat=60:=rfl;have G:(62:UInt8).toNat=62:=rfl;have l:∀e,(if(b.toNat=60/\(e=62\/e=61))\/(b.toNat=62/\e=61)then 2 else if b.toNat∈[40,41,44,124,58,61,60,62,43,45,42,47,37]then 1 else 0)=0:=by
   intro e;rw[aE (by rintro(⟨f,_⟩|⟨f,_⟩);exact g f;exact i f),aE];intro a;simp only[List.mem_cons,List.mem_nil_iff,or_false]at a;rcases a with a|a|a|a|a|a|a|a|a|a|a|a|a
   {exact A a};{exact B a};{exact C a};{exact D a};{exact t a};{exact z a};{exact g a};{exact i a};{exact u a};{exact v a};{exact w a};{exact x a};exact y a
  cases m with|nil=>exact l 0|cons o m=>exact l o.toNat
def qF(T:ByteArray)(h:0<T.size):Tk×Nat:=if dZ T 0 h=0 then(.bad,0)else(.sign (T.extract 0 (dZ T 0 h)),dZ T 0 h)
theorem Iv(a:Nat)(c:5<=a)(d:a<=20):xM[a]?=gd[a - 5]?:=by
 have b:a=5\/a=6\/a=7\/a=8\/a=9\/a=10\/a=11\/a=12\/a=13\/a=14\/a=15\/a=16\/a=17\/a=18\/a=19\/a=20:=by omega
 rcases b with rfl|rfl|rfl|rfl|rfl|rfl|rfl|rfl|rfl|rfl|rfl|rfl|rfl|rfl|rfl|rfl<;>rfl
theorem acb(a:gd[x]?=σ w):0<w.size:=by
 have c:x<16:=(aj.mp a).1;have b:x=0\/x=1\/x=2\/x=3\/x=4\/x=5\/x=6\/x=7\/x=8\/x=9\/x=10\/x=11\/x=12\/x=13\/x=14\/x=15:=by omega
 rcases b with rfl|rfl|rfl|rfl|rfl|rfl|rfl|rfl|rfl|rfl|rfl|rfl|rfl|rfl|rfl|rfl<;>(cases a;decide)
theorem K0(e:List UInt8)(c:ω)(i:0<(ByteArray.mk ⟨e⟩).size)(y:LY c)(z:2<c.heap.size):Calls prog 81 #[θ ⟨⟨e⟩⟩] c λg s=>
 g=τ (.tuple #[Ir (qF ⟨⟨e⟩⟩ i).1 0,ι κ (KZ (qF ⟨⟨e⟩⟩ i))])/\Below c.heap.size c s:=by
 have t:=y;clear y;go_in;go_wp2_with fail;go_loopw[4] (λp wr=>∃a:Nat,5<=a/\a<=21/\p=ι κ a/\wr=c.alloc (vz 0 0 ⟨#[]⟩ 0)/\Hid (∀(d:Nat) (f:ByteArray),d<a - 5->gd[d]?=σ f->Lib.hasPrefix e f.data.toList=false)) (λp _=>21 - (intOf p).toNat);case atStart=>exact⟨5,by omega,by omega,rfl,rfl,au (λd f k=>by omega)⟩
 case round=>obtain⟨a,A,K,rfl,rfl,m⟩:=hrel;by_cases x:a<=20;{have C:(a:Int)<=20:=(by omega);obtain⟨b,l⟩:∃b,xM[a]?=σ b:=⟨_,af (show a<xM.length from by show a<49;omega)⟩;have H:(c.alloc (vz 0 0 ⟨#[]⟩ 0)).cell? ⟨2,a,ν⟩=σ (θ b):=(((ah c.heap.size c).alloc (ae _) _).cell (p:=⟨2,a,ν⟩) z).trans (t a b l);cases hp:Lib.hasPrefix e b.data.toList;{go_wp2_with(go_at_call 111;refine(Tryz.strings_HasPrefix _ _ _).mono ?_;rintro E s ⟨rfl,rfl⟩);refine⟨⟨a+1,by omega,by omega,by go_num,trivial,au (λd f k r=>?_)⟩,by simp[intOf];omega⟩;by_cases D:d<a - 5;{exact m.J d f D r};have g:d=a - 5:=(by omega);rw[g,<- Iv a A x,l]at r;cases r;exact hp};have o:gd[a - 5]?=σ b:=(Iv a A x).symm.trans l;obtain⟨u,v,w⟩:=Iu o hp m.J i;have I:0<b.size:=acb o;have j:qF ⟨⟨e⟩⟩ i=(.sign b,b.size):=(by unfold qF;rw[aE (by omega),u,v]);have n:=au j;have B:=au w;clear j u v w o;go_wp2_with(go_at_call 111;refine(Tryz.strings_HasPrefix _ _ _).mono ?_;rintro E s ⟨rfl,rfl⟩);have G:(c.alloc (vz a 0 ⟨#[]⟩ 0)).cell? ⟨2,a,ν⟩=σ (θ b):=(((ah c.heap.size c).alloc (ae _) _).cell (p:=⟨2,a,ν⟩) z).trans (t a b l);go_region;all_goals (try go_wp2_with fail);(try simp only[Exit.inBlock,Exit.then]);refine aD (by simp[results,results81,go_sem];rfl) rfl ?_;refine⟨?_,aH ((ah _ _).alloc (ae _) _)⟩;rw[n.J];have g:aV (.sign b)=a:=(by show 5+xN gd b=a;rw[B.J];omega);show _=Ending.returned (.tuple #[.agg #[ι κ (aV (.sign b)),ι κ 0,θ ⟨#[]⟩,ι κ 0],ι κ b.size]);rw[g]};have C:¬(a:Int)<=20:=(by omega);have F:a=21:=(by omega);have j:qF ⟨⟨e⟩⟩ i=(.bad,0):=(by unfold qF;rw[aF (L5 (λd f k=>m.J d f (by have:=(aj.mp k).1;have g:gd.length=16:=rfl;omega) k) i)]);have n:=au j;clear j;go_wp2_with fail;(try simp only[Exit.inBlock,Exit.then]);refine aD (by simp[results,results81,go_sem];rfl) rfl ?_;refine⟨?_,(ah _ _).alloc (ae _) _⟩;rw[n.J];rfl
def tS(T:ByteArray):Tk×Nat:=if 8<aP T da 0 then(.bad,0)else if cK.any (jN (T.extract 0 (aP T da 0)))then(.word (T.extract 0 (aP T da 0)),aP T da 0)else(.name (T.extract 0 (aP T da 0)),aP T da 0)
theorem TU(a:Nat)(c:21<=a)(d:a<=48):xM[a]?=cK[a - 21]?:=by
 have b:a=21\/a=22\/a=23\/a=24\/a=25\/a=26\/a=27\/a=28\/a=29\/a=30\/a=31\/a=32\/a=33\/a=34\/a=35\/a=36\/a=37\/a=38\/a=39\/a=40\/a=41\/a=42\/a=43\/a=44\/a=45\/a=46\/a=47\/a=48:=by omega
 rcases b with rfl|rfl|rfl|rfl|rfl|rfl|rfl|rfl|rfl|rfl|rfl|rfl|rfl|rfl|rfl|rfl|rfl|rfl|rfl|rfl|rfl|rfl|rfl|rfl|rfl|rfl|rfl|rfl<;>rfl
theorem YB(b:m[x]?=σ w)(f:jN w l=true)(j:∀(a:Nat) (c:ByteArray),a<x->m[a]?=σ c->jN c l=false):xN m l=x:=by have d:x<m.length:=(aj.mp b).1;have k:=kA.mp f;unfold xN;rw[List.findIdx_eq d];have g:m[x]=w:=(aj.mp b).2;refine⟨by rw[g,kA];exact k.symm,λa i=>?_⟩;have:=j a m[a] i (af (by omega));rw[eJ,ne_eq,kA]at this ⊢;exactλe=>this e.symm
theorem ale(b:m[x]?=σ w)(a:jN w l=true):m.any (jN l)=true:=by rw[oZ];exact⟨w,aA b,by rw[kA]at a ⊢;exact a.symm⟩
theorem agK(e:∀(a:Nat) (b:ByteArray),m[a]?=σ b->jN b w=false):m.any (jN w)=false:=by rw[mA];intro g f;have⟨a,d⟩:=dK f;have:=e a g d;rw[eJ,ne_eq,kA]at this;rw[kA];exactλc=>this c.symm
theorem zF(d:ω)(c:TypeId)(b:ByteArray)(e:n.underlying c=σ .string)(a:Nat)(f:a<=b.size) :
 (Instr.slice c (θ b) ν (σ (ι κ a)) ν).run n d=.ok (θ (b.extract 0 a)) d:=by simp[Instr.slice,run_underlying e,Instr.sliceBounds,run_sliceBound, *]
theorem uD(d:ω)(c:TypeId)(a:ByteArray)(e:n.underlying c=σ .string)(b:Nat)(f:b<=a.size) :
 (Instr.slice c (θ a) (σ (ι κ b)) ν ν).run n d=.ok (θ (a.extract b a.size)) d:=by simp[Instr.slice,run_underlying e,Instr.sliceBounds,run_sliceBound, *]
theorem L6(a:ByteArray)(b:ω)(e:a.size<=281474976710656):Calls prog 107 #[θ a] b λc f=>c=τ (θ a)/\Below b.heap.size b f:=by go_in;go_wp2_with fail;refine(Tryz.stringslite_Clone a b e).mono ?_;rintro g i ⟨rfl,d⟩;go_wp2;go_ret;exact⟨rfl,d⟩
theorem bY{a:Array υ}(b:v.heap[x]?=σ (.cells a i (0,0)))(c:Nat):v.frozen? (Ad x c)=false:=by simp[World.frozen?,b]
theorem qb(g:Below x v r){a:Nat}(i:x<=a)(c d e f:υ):Below x v ((((r.setCell (Ad a 0) c).setCell (Ad a 1) d).setCell (Ad a 2) e).setCell (Ad a 3) f):=
 have b:¬a<x:=by omega
 (((((aY.Dm g).setCell (p:=(Ad a 0)) b c).setCell (p:=(Ad a 1)) b d).setCell (p:=(Ad a 2)) b e).setCell (p:=(Ad a 3)) b f).below
theorem eQ{a b c d:υ}(e:v.heap[x]?=σ (.cells #[a,b,c,d] i (0,0))) :
 v.cell? (Ad x 0)=σ a/\v.cell? (Ad x 1)=σ b/\v.cell? (Ad x 2)=σ c/\v.cell? (Ad x 3)=σ d:=by simp[World.cell?,e]
theorem K4(d:ByteArray)(b:ω)(N:d.size<=300)(Q:LY b)(R:2<b.heap.size):Calls prog 77 #[θ d] b λj B=>
 j=τ (.tuple #[Ir (tS d).1 0,ι κ (KZ (tS d))])/\Below b.heap.size b B:=by
 have E:=fY d da 0 (aI _);have⟨e,p⟩:=nm (aP d da 0);have⟨c,s⟩:=nm (d.extract 0 e);rw[<- p]at E;have ab:∀b,(Instr.slice 9 (θ d) ν (σ (ι κ e)) ν).run prog b=.ok (θ c) b:=λb=>by rw[s];exact zF b 9 d underlying9 e E
 have z:=Gw d (b.alloc (vz 0 0 ⟨#[]⟩ 0)) N;rw[<- p]at z;have C:=z;have F:tS d=if 8<e then(.bad,0)else if cK.any (jN c)then(.word c,e)else(.name c,e):=by rw[s,p];rfl
 have t:=au F;have KY:c.size<=300:=by rw[s,dt];omega
 clear z F p s;by_cases x:8<e;{have M:(8:Int)<e:=(by omega);go_in;go_wp2_with(go_at_call 106;refine C.mono ?_;rintro Y B ⟨rfl,rfl⟩);(try simp only[Exit.inBlock,Exit.then]);refine aD (by simp[results,results77,go_sem];rfl) rfl ?_;refine⟨?_,(ah _ _).alloc (ae _) _⟩;rw[t.J,aF x];rfl};have M:¬(8:Int)<e:=(by omega);go_in;go_wp2_with(go_at_call 106;refine C.mono ?_;rintro Y B ⟨rfl,rfl⟩);go_loopw[6] (λw wr=>∃a:Nat,21<=a/\a<=49/\w=ι κ a/\wr=b.alloc (vz 0 0 ⟨#[]⟩ 0)/\Hid (∀(f:Nat) (i:ByteArray),f<a - 21->cK[f]?=σ i->jN i c=false)) (λw _=>49 - (intOf w).toNat);(case atStart=>exact⟨21,by omega,by omega,rfl,rfl,au (λf i o=>by omega)⟩);case round=>obtain⟨a,T,np,rfl,rfl,u⟩:=hrel;by_cases P:a<=48;{have L:(a:Int)<=48:=(by omega);obtain⟨g,r⟩:∃g,xM[a]?=σ g:=⟨_,af (show a<xM.length from by show a<49;omega)⟩;have m:cK[a - 21]?=σ g:=(TU a T P).symm.trans r;have aa:(b.alloc (vz 0 0 ⟨#[]⟩ 0)).cell? (Ad 2 a)=σ (θ g):=(((ah b.heap.size b).alloc (ae _) _).cell (p:=(Ad 2 a)) R).trans (Q a g r);by_cases n:jN g c=true;{have K:(g.toList==c.toList)=true:=(by rw[nE];exact n);have l:tS d=(.word c,e):=(by rw[t.J,aE x,aF (ale m n)]);have v:=au l;have H:=au (YB m n u.J);clear l r m;go_wp2;(try simp only[Exit.inBlock,Exit.then]);refine aD (by simp[results,results77,go_sem];rfl) rfl ?_;refine⟨?_,(ah _ _).alloc (ae _) _⟩;rw[v.J];have j:aV (.word c)=a:=(by show 21+xN cK c=a;rw[H.J];omega);show _=Ending.returned (.tuple #[.agg #[ι κ (aV (.word c)),ι κ 0,θ ⟨#[]⟩,ι κ 0],ι κ e]);rw[j]};have D:jN g c=false:=(by simpa using n);have K:(g.toList==c.toList)=false:=(by rw[nE];exact D);have I:=au m;clear r m;go_wp2_with fail;refine⟨⟨a+1,by omega,by omega,by go_num,trivial,au (λf i o A=>?_)⟩,by simp[intOf];omega⟩;by_cases O:f<a - 21;{exact u.J f i O A};have j:f=a - 21:=(by omega);rw[j,I.J]at A;cases A;exact D};have L:¬(a:Int)<=48:=(by omega);have AX:a=49:=(by omega);have l:tS d=(.name c,e):=(by rw[t.J,aE x,aE (by rw[agK (λf i o=>u.J f i (by have:=(aj.mp o).1;have j:cK.length=28:=rfl;omega) o)];decide)]);have v:=au l;clear l;go_wp2_with fail;refine(L6 c _ (by omega)).mono ?_;rintro ac Z ⟨rfl,y⟩;have k:Z.heap[b.heap.size]?=σ (vz 0 0 ⟨#[]⟩ 0):=(y.block b.heap.size (by simp)).trans (ak b _);have⟨U,V,W,X⟩:=eQ k;have z0:=bY k 0;have z1:=bY k 1;have z2:=bY k 2;have z3:=bY k 3;have G:=(((ah b.heap.size b).alloc (ae _) _).trans (y.mono (by simp)));clear y k;go_wp2;(try simp only[Exit.inBlock,Exit.then]);refine aD (by simp[results,results77,go_sem,U,V,W,X];rfl) rfl ?_;refine⟨?_,qb G (ae _) _ _ _ _⟩;rw[v.J];rfl
def xO(T:ByteArray):Tk×Nat:=if 19<aP T cX 0\/9223372036854775807<mN (T.extract 0 (aP T cX 0)).data.toList then(.bad,0)else(.num (mN (T.extract 0 (aP T cX 0)).data.toList),aP T cX 0)
theorem FK(a:cX t=true):48<=t.toNat/\t.toNat<=57:=by unfold cX jP at a;rw[cC,dE,dE]at a;exact a
theorem Dw:∀(c:List UInt8) (b:Nat),(∀a∈c,cX a=true)->c.length<=19->b<10 ^ (19 - c.length)->Lib.parseUint10 b c=.ok (c.foldl (λm a=>m*10+(a.toNat - 48)) b)
 |[],b,_,_,_=>rfl
 |a::r,b,hd,hl,ha=>by
   have l:=FK (hd a (by simp));simp only[List.length_cons]at hl ha;have d:19 - r.length=(19 - (r.length+1))+1:=by omega
   have i:b*10+(a.toNat - 48)<10 ^ (19 - r.length):=by
    rw[d,Nat.pow_succ];omega
   have j:10 ^ (19 - r.length)<=10 ^ 19:=eE (by omega) (by omega);have k:10 ^ (19 - (r.length+1))<=10 ^ 18:=eE (by omega) (by omega);have f:(10:Nat) ^ 19=10000000000000000000:=rfl;have e:(10:Nat) ^ 18=1000000000000000000:=rfl;rw[f]at j;rw[e]at k;rw[Lib.parseUint10,aF l,aE (by omega),aE (by omega),jO];exact Dw r _ (λa g=>hd a (by simp[g])) (by omega) i
theorem P7(d:∀a∈p,cX a=true)(f:1<=p.length)(g:p.length<=19):Lib.atoiAll p=if 9223372036854775807<mN p then .range else .ok (mN p:Nat):=by cases p with|nil=>(exact absurd f (by decide))|cons a b=>have k:=FK (d a (by simp));have j:=Dw (a::b) 0 d g (Nat.pow_pos (by omega));have i:Lib.parseMag (a::b)=.ok (mN (a::b)):=(by unfold Lib.parseMag;rw[aE (by simp),j];rfl);unfold Lib.atoiAll;simp only;rw[aE (by omega),i];simp only;have e:¬a.toNat=45:=(by omega);by_cases c:9223372036854775807<mN (a::b);{rw[aF c,aF ⟨e,by omega⟩]};rw[aE c,aE (by omega),aE (by omega),aE e]
theorem YC(a:ByteArray):∀d∈(a.extract 0 (aP a cX 0)).data.toList,cX d=true:=by intro d k;obtain⟨c,b⟩:=dK k;have e:=(aj.mp b).1;have l:=fY a cX 0 (aI _);have f:c<aP a cX 0:=(by have:(a.extract 0 (aP a cX 0)).size=aP a cX 0:=(by rw[dt];omega);rw[qa,this]at e;exact e);obtain⟨i,j⟩:=He a cX 0 c (aI _) f;have g:d=a[c]:=(by rw[ep,jl,fW]at b;simp only[List.drop_zero,Nat.sub_zero]at b;rw[gi,aF f,PY a c i]at b;cases b;rfl);rw[g];exact j
def EL(w:ω):Prop:=∃ev,w.cell? ⟨6,0,ν⟩=σ ev/\(ev=.nilIface\/∃te pe,ev=.iface te pe)
theorem EL.below(b:EL v)(f:Below x v r)(e:6<x):EL r:=by obtain⟨a,c,d⟩:=b;exact⟨a,(f.cell (p:=⟨6,0,ν⟩) e).trans c,d⟩
theorem Gz(b:ByteArray)(a:ω)(Q:b.size<=300)(O:0<b.size)(R:cX b[0]=true)(A:EL a)(U:6<a.heap.size):Calls prog 79 #[θ b] a λM k=>
 M=τ (.tuple #[Ir (xO b).1 0,ι κ (KZ (xO b))])/\Below a.heap.size a k:=by
 have C:=fY b cX 0 (aI _);have T:1<=aP b cX 0:=by rw[dQ b cX 0 O R];exact eP b cX 1
 obtain⟨d,i⟩:=nm (aP b cX 0);obtain⟨e,j⟩:=nm (b.extract 0 d);rw[<- i]at C T;have KY:e.size=d:=by rw[j,dt];omega
 have K:∀L∈e.data.toList,cX L=true:=by rw[j,i];exact YC b
 have ab:∀a,(Instr.slice 9 (θ b) ν (σ (ι κ d)) ν).run prog a=.ok (θ e) a:=λa=>by rw[j];exact zF a 9 b underlying9 d C
 have u:=Iq b (a.alloc (vz 0 0 ⟨#[]⟩ 0)) Q;rw[<- i]at u;have r:=u;have G:xO b=if 19<d\/9223372036854775807<mN e.data.toList then(.bad,0)else(.num (mN e.data.toList),d):=by rw[j,i];rfl
 have n:=au G;have m:Below a.heap.size a (a.alloc (vz 0 0 ⟨#[]⟩ 0)):=(ah _ _).alloc (ae _) _;have H:=A.below m U;have z:=m;clear u G i j A m;by_cases P:19<d;{have I:(19:Int)<d:=(by omega);go_in;go_wp2_with(go_at_call 106;refine r.mono ?_;rintro E k ⟨rfl,rfl⟩);(try simp only[Exit.inBlock,Exit.then]);refine aD (by simp[results,results79,go_sem];rfl) rfl ?_;refine⟨?_,(ah _ _).alloc (ae _) _⟩;rw[n.J,aF (.inl P)];rfl};have I:¬(19:Int)<d:=(by omega);have g:=P7 K (by rw[qa];omega) (by rw[qa];omega);by_cases t:9223372036854775807<mN e.data.toList;{rw[aF t]at g;obtain⟨N,D,B⟩:=H;have s:=Tryz.strconv_Atoi_range e (by omega) g N _ D B;have p:=au (show xO b=(.bad,0)from by rw[n.J,aF (.inr t)]);clear g D B;go_in;go_wp2_with(go_at_call 106;refine r.mono ?_;rintro E k ⟨rfl,rfl⟩);refine s.mono ?_;rintro V l ⟨aa,rfl,-,-,f⟩;have c:l.heap[a.heap.size]?=σ (vz 0 0 ⟨#[]⟩ 0):=(f.block a.heap.size (by simp)).trans (ak a _);obtain⟨v,w,x,y⟩:=eQ c;have W:=bY c 0;have X:=bY c 1;have Y:=bY c 2;have Z:=bY c 3;have o:=z.trans (f.mono (by simp));clear f c;go_wp2_with fail;(try simp only[Exit.inBlock,Exit.then]);refine aD (by simp[results,results79,go_sem,v,w,x,y];rfl) rfl ?_;refine⟨?_,qb o (ae _) _ _ _ _⟩;rw[p.J];rfl};rw[aE t]at g;have s:=Tryz.strconv_Atoi_ok e (by omega) _ g (a.alloc (vz 0 0 ⟨#[]⟩ 0));have p:=au (show xO b=(.num (mN e.data.toList),d)from by rw[n.J,aE (by omega)]);clear g;go_in;go_wp2_with(go_at_call 106;refine r.mono ?_;rintro E k ⟨rfl,rfl⟩);refine s.mono ?_;rintro V l ⟨rfl,F⟩;have f:Below (a.alloc (vz 0 0 ⟨#[]⟩ 0)).heap.size (a.alloc (vz 0 0 ⟨#[]⟩ 0)) l:=(by rcases F with rfl|⟨ac,rfl⟩;{exact ah _ _};exact Lib.bytesWorld_below _ _ _);have c:l.heap[a.heap.size]?=σ (vz 0 0 ⟨#[]⟩ 0):=(f.block a.heap.size (by simp)).trans (ak a _);obtain⟨v,w,x,y⟩:=eQ c;have W:=bY c 0;have X:=bY c 1;have Y:=bY c 2;have Z:=bY c 3;have o:=z.trans (f.mono (by simp));clear f c F;go_wp2_with fail;(try simp only[Exit.inBlock,Exit.then]);refine aD (by simp[results,results79,go_sem,v,w,x,y];rfl) rfl ?_;refine⟨?_,qb o (ae _) _ _ _ _⟩;rw[p.J];rfl
def uE(s:ByteArray):Bool:=decide (s.size<=12)&&s.data.toList.all fX
theorem TW(a:ByteArray)(b:Nat)(d:b<a.size)(c:fX a[b]=false):uE a=false:=by have:a.data.toList.all fX=false:=List.all_eq_false.2 ⟨a[b],aA (PY a b d),by simp[c]⟩;simp[uE,this]
theorem agL(a:(t.toNat:Int)<32\/126<(t.toNat:Int)\/(t.toNat:Int)=39):fX t=false:=by rw[eJ,ne_eq,zx];omega
theorem xP(a:ByteArray)(g:ω) :
 Calls prog 110 #[θ a] g λj l=>j=τ (.bool (uE a))/\g=l:=by
 by_cases f:a.size<=12
 .have i:(a.size:Int)<=12:=by omega
  go_in;go_wp2;go_loop [9] (λc=>∃b:Nat,b<=a.size/\c=ι κ b/\Hid ((a.data.toList.take b).all fX=true)) (λc=>a.size - (intOf c).toNat);case atStart=>exact⟨0,aI _,rfl,au (by simp)⟩
  case round=>
   obtain⟨b,n,rfl,d⟩:=hrel;by_cases e:b<a.size
   .have o:(b:Int)<(a.size:Int):=(by omega);go_wp2;all_goals first
     | (have k:((32:Int)<=(a[b].toNat:Int)/\(a[b].toNat:Int)<=126)/\((a[b].toNat:Int)==39)=false:=by assumption
        go_round
        case rel=>
         refine⟨b+1,by omega,by go_num,au ?_⟩;rw[ft (by rw[qa];exact e),List.all_append,d.J];have m:=aK.1 k.2;have:fX a[b]=true:=(zx a[b]).mpr (by omega);simp only[List.all_cons,List.all_nil,Bool.and_true,Bool.true_and];exact this
        case measure=>simp[intOf];omega)
     | (go_ret
        exact⟨a7 Ending.returned (a7 Value.bool (TW a b e (agL (by(try simp only[beq_iff_eq]at *);omega))).symm),rfl⟩)
   go_wp2;go_ret;refine⟨a7 Ending.returned (a7 Value.bool ?_),rfl⟩;have:=d.J;rw[aL (by rw[qa];omega)]at this;simp[uE,f,this]
 have i:(12:Int)<(a.size:Int):=(by omega);go_in;go_wp2;go_ret;refine⟨a7 Ending.returned (a7 Value.bool ?_),rfl⟩;simp[uE,f]
def EN(c:UInt8):Bool:=c != 39
theorem apk:∀(c:List UInt8),((39:UInt8)∈c->Lib.index c [39]=((c.takeWhile EN).length:Nat))/\((39:UInt8)∉c->Lib.index c [39]=-1)
 |[]=>⟨λb=>by simp at b,λ_=>rfl⟩
 |d::r=>by
   obtain⟨f,g⟩:=apk r;by_cases e:d=39
   . subst e
     refine⟨λ_=>?_,λb=>absurd (by simp) b⟩;rw[Lib.index,aF (by simp[List.isPrefixOf])];simp[EN]
   . have i:([39]:List UInt8).isPrefixOf (d::r)=false:=by
      simp[List.isPrefixOf];exactλa=>e a.symm
     have k:(d::r).takeWhile EN=d::r.takeWhile EN:=by
      rw[gC,aF (by simp[EN,e])]
     rw[Lib.index,aE (by rw[i];decide),k];constructor
     . intro b
       have j:(39:UInt8)∈r:=by
        rcases bq.mp b with a|a
        . exact absurd a.symm e
        . exact a
       rw[f j,aE (by simp)];simp
     . intro b
       rw[g (λa=>b (cz _ a)),aF (by decide)]
theorem ajt:∀(b:List UInt8),((39:UInt8)∈b->(b.takeWhile EN).all fX=true->b[(b.takeWhile fX).length]?=σ 39/\b.takeWhile fX=b.takeWhile EN)/\(b[(b.takeWhile fX).length]?=σ 39->(39:UInt8)∈b/\(b.takeWhile EN).all fX=true)
 |[]=>⟨λa=>by simp at a,λa=>by simp at a⟩
 |c::r=>by
   obtain⟨j,k⟩:=ajt r;by_cases d:c=39
   . subst d
     have e:fX 39=false:=by decide
     have n:((39:UInt8)::r).takeWhile fX=[]:=by rw[gC,aE (by rw[e];decide)]
     have o:((39:UInt8)::r).takeWhile EN=[]:=by rw[gC,aE (by decide)]
     rw[n,o];exact⟨λ_ _=>⟨rfl,rfl⟩,λ_=>⟨by simp,rfl⟩⟩
   . rw[gC,gC,aF (show EN c=true from by simp[EN,d])]
     cases e:fX c with
     |true=>
       simp only[if_true,List.length_cons,List.getElem?_cons_succ,List.all_cons,e,Bool.true_and];constructor
       . intro a l
         have m:(39:UInt8)∈r:=by
          rcases bq.mp a with f|f
          . exact absurd f.symm d
          . exact f
         obtain⟨g,i⟩:=j m l;exact⟨g,by rw[i]⟩
       . intro a
         obtain⟨g,i⟩:=k a;exact⟨cz _ g,i⟩
     |false=>
       simp only[List.all_cons,e,Bool.false_and];refine⟨λ_ a=>absurd a (by decide),λa=>?_⟩;simp at a;exact absurd a d
def qG(T:ByteArray):Tk×Nat:=if h2:aP T fX 1<T.size then(if T[aP T fX 1].toNat=39/\aP T fX 1 - 1<=12 then(.str (T.extract 1 (aP T fX 1)),aP T fX 1+1)else(.bad,0))else(.bad,0)
theorem EO(b:ByteArray)(c:UInt8->Bool)(a:Nat)(e:a<=b.size):aP b c a=a+((b.data.toList.drop a).takeWhile c).length:=by have f:=LZ b c _ a rfl e;have d:=a7 List.length (rE (p:=c) (l:=b.data.toList.drop a));rw[aw,bW,qa]at d;omega
theorem NG(a:ByteArray)(b:Nat):(a.extract b a.size).data.toList=a.data.toList.drop b:=by rw[ep,jl,fW];rw[aL];rw[bW,qa];exact ae _
theorem alf(b:ByteArray)(a c:Nat):(b.extract a (a+c)).data.toList=(b.data.toList.drop a).take c:=by rw[ep,jl,fW];congr 1;omega
theorem NH(a:w.data.toList=l.data.toList):w=l:=pN (o7.mp a)
theorem ace(a:ByteArray)(y:0<a.size):qG a=(if(Lib.cut (a.extract 1 a.size).data.toList [39]).2.2&&uE ⟨(Lib.cut (a.extract 1 a.size).data.toList [39]).1.toArray⟩then(.str ⟨(Lib.cut (a.extract 1 a.size).data.toList [39]).1.toArray⟩,(Lib.cut (a.extract 1 a.size).data.toList [39]).1.length+2)else(.bad,0)):=by
 rw[NG];obtain⟨b,f⟩:=nm (a.data.toList.drop 1);rw[<- f];have C:b.length=a.size - 1:=by rw[f,bW,qa]
 have i:=EO a fX 1 y;rw[<- f]at i;have m:∀g (u:1+g<a.size),b[g]?=σ a[1+g]:=λg u=>by
  rw[f,jg];exact PY a (1+g) u
 obtain⟨c1,c2⟩:=apk b;obtain⟨w,s⟩:=ajt b;have B:(b.takeWhile EN).length<=b.length:=(List.takeWhile_prefix EN).length_le;have v:b.take (b.takeWhile EN).length=b.takeWhile EN:=(List.prefix_iff_eq_take.mp (List.takeWhile_prefix EN)).symm;unfold qG;by_cases k:(39:UInt8)∈b;{have hcut:Lib.cut b [39]=(b.takeWhile EN,b.drop ((b.takeWhile EN).length+1),true):=(by unfold Lib.cut;rw[c1 k,aF (by omega)];simp[v]);rw[hcut];simp only[Bool.true_and];by_cases l:(b.takeWhile EN).all fX=true;{obtain⟨t,j⟩:=w k l;have n:aP a fX 1<a.size:=(by have:=(aj.mp t).1;omega);rw[ec n];have d:a[aP a fX 1].toNat=39:=(by have c:=m (b.takeWhile fX).length (by omega);rw[t]at c;have x:(39:UInt8)=a[1+(b.takeWhile fX).length]:=bk c;have e:a[aP a fX 1]=a[1+(b.takeWhile fX).length]'(by omega):=(by congr 1);rw[e,<- x];rfl);have r:uE ⟨(b.takeWhile EN).toArray⟩=decide ((b.takeWhile EN).length<=12):=(by unfold uE;show(decide ((b.takeWhile EN).length<=12)&&(b.takeWhile EN).all fX)=_;rw[l,Bool.and_true]);rw[r];by_cases p:(b.takeWhile EN).length<=12;{rw[aF ⟨d,by rw[i,j];omega⟩,aF (by simpa using p)];have z:a.extract 1 (aP a fX 1)=⟨(b.takeWhile EN).toArray⟩:=(by apply NH;rw[i,alf,<- f,j,v]);rw[z,i,j];congr 1;omega};rw[aE (λA=>p (by have:=A.2;rw[i,j]at this;omega)),aE (by simpa using p)]};have r:uE ⟨(b.takeWhile EN).toArray⟩=false:=(by unfold uE;show(decide _&&(b.takeWhile EN).all fX)=_;rw[eJ.mpr l,Bool.and_false]);rw[r,aE (show¬(false=true)from by decide)];split;{rename_i n;rw[aE];rintro⟨d,-⟩;have c:=m (b.takeWhile fX).length (by omega);have e:a[aP a fX 1]=a[1+(b.takeWhile fX).length]'(by omega):=(by congr 1);rw[e]at d;have o:a[1+(b.takeWhile fX).length]'(by omega)=39:=iY.mp d;rw[o]at c;exact l (s c).2};rfl};have hcut:Lib.cut b [39]=(b,[],false):=(by unfold Lib.cut;rw[c2 k,aE (by decide)]);rw[hcut,aE (by simp)];split;{rename_i n;rw[aE];rintro⟨d,-⟩;have c:=m (b.takeWhile fX).length (by omega);have e:a[aP a fX 1]=a[1+(b.takeWhile fX).length]'(by omega):=(by congr 1);rw[e]at d;have o:a[1+(b.takeWhile fX).length]'(by omega)=39:=iY.mp d;rw[o]at c;exact k (s c).1};rfl
