import Derived.Test.YtcoaphfimellcaaGreatDoorQAD
import Derived.Test.YtcoaphfimellcaaGreatDoorQSH
set_option maxHeartbeats 0
set_option maxRecDepth 100000
namespace Go.Proofs.YtcoaphfimellcaaGreatDoor
open Go.RowKit
open _root_.Go.Proofs.Tryz
open Option renaming some→σ,none→ν
open Go.IntKind renaming i64→κ
open Go.Ending renaming returned→τ
open Go.Obj renaming cells→ξ
open Go renaming World→ω,Value→υ
open Go.RowKit renaming Below→δ
open Go.Value renaming int→ι,string→θ,agg→χ
variable{w l:ByteArray}{p:List UInt8}{m:List ByteArray}{x:Nat}{v t:ω}{n:Program}{i:UInt8}
def fm:List ByteArray:=[bs [60,62],bs [60,61],bs [62,61],bs [61],bs [60],bs [62],bs [40],bs [41],bs [44],bs [124],bs [58],bs [43],bs [45],bs [42],bs [47],bs [37]]
def wN:List ByteArray:=[bs [],bs [],bs [],bs [],bs []]++fm++cC
def Kp(w:ω):Prop:=∀i s,wN[i]?=σ s->w.cell? ⟨2,i,ν⟩=σ (θ s)
theorem Kp.below(b:Kp v)(d:δ x v t)(c:2<x):Kp t:=λa f e=>(d.cell (p:=⟨2,a,ν⟩) c).trans (b a f e)
def wO(l:List ByteArray)(s:ByteArray):Nat:=l.findIdx (iZ s)
def aU:Tk->Nat
 |.stop=>0
 |.bad=>1
 |.name _=>2
 |.num _=>3
 |.str _=>4
 |.sign s=>5+wO fm s
 |.word s=>21+wO cC s
def cM:Tk->ByteArray
 |.name s=>s
 |.str s=>s
 |_=>⟨#[]⟩
def fR:Tk->Nat
 |.num n=>n
 |_=>0
def Ut(k:Tk)(pl:Nat):List υ:=[ι κ (aU k),ι κ pl,θ (cM k),ι κ (fR k)]
def GD(k:Tk)(pl:Nat):υ:=χ #[ι κ (aU k),ι κ pl,θ (cM k),ι κ (fR k)]
def Ju(r:Tk×Nat):Nat:=if r.1.ends then 0 else r.2
theorem px(a:ByteArray):a.data.toList.length=a.size:=by rw[dO];rfl
theorem ND(b:ByteArray)(a:Nat)(c:a<b.size):b.data.toList[a]?=σ b[a]:=by rw[af (by rw[px];exact c)];rfl
theorem Kq(b:ByteArray)(c:UInt8->Bool):∀(d a:Nat),b.size - a=d->a<=b.size->aS b c a+((b.data.toList.drop a).dropWhile c).length=b.size:=by
 intro d
 induction d with
 |zero=>
   intro a i g;rw[nT b c a (by omega),kP (by rw[px];omega)];simp;omega
 |succ d j=>
   intro a i g;have e:a<b.size:=by omega
   have f:b.data.toList.drop a=b[a]::b.data.toList.drop (a+1):=by
    rw[cA (by rw[px];exact e)];rfl
   rw[f,List.dropWhile_cons]
   cases hb:c b[a]with
   |true=>
     rw[iJ b c a e hb];simp only[if_true];exact j (a+1) (by omega) (by omega)
   |false=>
     rw[mU b c a e hb];simp;omega
theorem Q7(a:ByteArray)(g:ω)(m:a.size<=300):Calls prog 57 #[θ a] g λb i=>b=τ (ι κ (aS a cz 0))/\g=i:=by
 have j:=Kq a cz _ 0 rfl (aK _);have f:Lib.trimLeftB a.data.toList 32=a.data.toList.dropWhile cz:=(by unfold Lib.trimLeftB;congr 1;funext c;unfold cz;rw[kj,dC,dt];exact⟨λd=>by rw[d];rfl,λd=>jg.mp d⟩);rw[nZ,<- f]at j;obtain⟨k,e⟩:=nm ((Lib.trimLeftB a.data.toList 32).length);have l:(ByteArray.mk (Lib.trimLeftB a.data.toList 32).toArray).size=k:=by rw[e];simp[ByteArray.size]
 rw[<- e]at j;clear f;go_in;go_wp2_with(go_at_call 75;refine(Tryz.strings_TrimLeft_one a 32 (by decide) _).mono ?_;rintro n i ⟨rfl,rfl⟩);go_ret;refine⟨?_,rfl⟩;have b:((a.size:Int) - (Lib.trimLeftB a.data.toList 32).length)=(aS a cz 0:Nat):=by rw[<- e];omega
 show Ending.returned (Value.int κ ((a.size:Int) - (Lib.trimLeftB a.data.toList 32).length))=_;rw[b]
theorem NF(a:w.data.toList <+: p):(ByteArray.mk ⟨p⟩).extract 0 w.size=w:=by apply vx;apply oz.mp;rw[gF,jR];obtain⟨c,rfl⟩:=a;have b:w.size=w.data.toList.length:=(px w).symm;rw[gK,b];simp
theorem aiu(a:Lib.hasPrefix p w.data.toList=true):w.data.toList <+: p:=List.isPrefixOf_iff_prefix.mp a
theorem GF{k:Nat}(c:fm[k]?=σ w)(a:Lib.hasPrefix p w.data.toList=true)(i:∀r z,r<k->fm[r]?=σ z->Lib.hasPrefix p z.data.toList=false)(j:0<(ByteArray.mk ⟨p⟩).size) :
 eI ⟨⟨p⟩⟩ 0 j=w.size/\(ByteArray.mk ⟨p⟩).extract 0 w.size=w/\wO fm w=k:=by
 have E:k<16:=(aj.mp c).1;refine⟨?_,NF (aiu a),?_⟩
 .cases p with
  |nil=>exact absurd j (by decide)
  |cons f l=>
    have v:=λe=>i 0 _ e rfl;have x:=λe=>i 1 _ e rfl;have y:=λe=>i 2 _ e rfl;clear i;have g:k=0\/k=1\/k=2\/k=3\/k=4\/k=5\/k=6\/k=7\/k=8\/k=9\/k=10\/k=11\/k=12\/k=13\/k=14\/k=15:=by omega
    cases l with
    |nil=>
      rcases g with rfl|rfl|rfl|rfl|rfl|rfl|rfl|rfl|rfl|rfl|rfl|rfl|rfl|rfl|rfl|rfl <;>
       (cases c;simp[Lib.hasPrefix,bs,List.isPrefixOf]at a)<;>(subst a;rfl)
    |cons b l=>
      have m:eI ⟨⟨f::b::l⟩⟩ 0 j=(if(f.toNat=60/\(b.toNat=62\/b.toNat=61))\/(f.toNat=62/\b.toNat=61)then 2 else if f.toNat∈[40,41,44,124,58,61,60,62,43,45,42,47,37]then 1 else 0):=rfl;rw[m];clear m;by_cases n:k=4
      . subst n
        cases c
        have s:=v (by omega);have t:=x (by omega);simp[Lib.hasPrefix,bs,List.isPrefixOf]at a s t;subst a;have B:¬b.toNat=62:=λd=>s rfl (jg.mp d).symm;have C:¬b.toNat=61:=λd=>t rfl (jg.mp d).symm;simp[B,C];rfl
      . by_cases o:k=5
        . subst o
          cases c
          have u:=y (by omega);simp[Lib.hasPrefix,bs,List.isPrefixOf]at a u;subst a;have D:¬b.toNat=61:=λd=>u rfl (jg.mp d).symm;simp[D];rfl
        . clear v x y
          have A:k=0\/k=1\/k=2\/k=3\/k=6\/k=7\/k=8\/k=9\/k=10\/k=11\/k=12\/k=13\/k=14\/k=15:=by omega
          clear g n o E;rcases A with rfl|rfl|rfl|rfl|rfl|rfl|rfl|rfl|rfl|rfl|rfl|rfl|rfl|rfl <;>
           (cases c;simp[Lib.hasPrefix,bs,List.isPrefixOf]at a)<;>first|(obtain⟨F,G⟩:=a;subst F;subst G;rfl)|(subst a;rfl)
 have g:k=0\/k=1\/k=2\/k=3\/k=4\/k=5\/k=6\/k=7\/k=8\/k=9\/k=10\/k=11\/k=12\/k=13\/k=14\/k=15:=(by omega);rcases g with rfl|rfl|rfl|rfl|rfl|rfl|rfl|rfl|rfl|rfl|rfl|rfl|rfl|rfl|rfl|rfl<;>(cases c;decide)
theorem Ks(k:∀(c:Nat) (n:ByteArray),fm[c]?=σ n->Lib.hasPrefix p n.data.toList=false)(j:0<(ByteArray.mk ⟨p⟩).size):eI ⟨⟨p⟩⟩ 0 j=0:=by
 cases p with
 |nil=>exact absurd j (by decide)
 |cons b m=>
   have one:∀(c:Nat) (d:UInt8),fm[c]?=σ (bs [d])->¬b.toNat=d.toNat:=λc d E r=>by
    have:=k c _ E;have s:b=d:=jg.mp r;subst s;simp[Lib.hasPrefix,bs,List.isPrefixOf]at this
   have z:=one 3 61 rfl;have g:=one 4 60 rfl;have i:=one 5 62 rfl;have A:=one 6 40 rfl;have B:=one 7 41 rfl;have C:=one 8 44 rfl;have D:=one 9 124 rfl;have t:=one 10 58 rfl;have u:=one 11 43 rfl;have v:=one 12 45 rfl;have w:=one 13 42 rfl;have x:=one 14 47 rfl;have y:=one 15 37 rfl;clear k one;have F:(60:UInt8).toNat=60:=rfl;have G:(62:UInt8).toNat=62:=rfl;have l:∀e,(if(b.toNat=60/\(e=62\/e=61))\/(b.toNat=62/\e=61)then 2 else if b.toNat∈[40,41,44,124,58,61,60,62,43,45,42,47,37]then 1 else 0)=0:=by
    intro e;rw[aE (by rintro(⟨f,_⟩|⟨f,_⟩);exact g f;exact i f),aE];intro a;simp only[List.mem_cons,List.mem_nil_iff,or_false]at a;rcases a with a|a|a|a|a|a|a|a|a|a|a|a|a
    . exact A a
    . exact B a
    . exact C a
    . exact D a
    . exact t a
    . exact z a
    . exact g a
    . exact i a
    . exact u a
    . exact v a
    . exact w a
    . exact x a
    . exact y a
   cases m with
   |nil=>exact l 0
   |cons o m=>exact l o.toNat
def qb(T:ByteArray)(h:0<T.size):Tk×Nat:=if eI T 0 h=0 then(.bad,0)else(.sign (T.extract 0 (eI T 0 h)),eI T 0 h)
theorem GH(a:Nat)(c:5<=a)(d:a<=20):wN[a]?=fm[a - 5]?:=by
 have b:a=5\/a=6\/a=7\/a=8\/a=9\/a=10\/a=11\/a=12\/a=13\/a=14\/a=15\/a=16\/a=17\/a=18\/a=19\/a=20:=by omega
 rcases b with rfl|rfl|rfl|rfl|rfl|rfl|rfl|rfl|rfl|rfl|rfl|rfl|rfl|rfl|rfl|rfl<;>rfl
theorem ZJ(a:fm[x]?=σ w):0<w.size:=by
 have c:x<16:=(aj.mp a).1;have b:x=0\/x=1\/x=2\/x=3\/x=4\/x=5\/x=6\/x=7\/x=8\/x=9\/x=10\/x=11\/x=12\/x=13\/x=14\/x=15:=by omega
 rcases b with rfl|rfl|rfl|rfl|rfl|rfl|rfl|rfl|rfl|rfl|rfl|rfl|rfl|rfl|rfl|rfl<;>(cases a;decide)
theorem Jv(e:List UInt8)(c:ω)(i:0<(ByteArray.mk ⟨e⟩).size)(y:Kp c)(z:2<c.heap.size):Calls prog 81 #[θ ⟨⟨e⟩⟩] c λg s=>
 g=τ (.tuple #[GD (qb ⟨⟨e⟩⟩ i).1 0,ι κ (Ju (qb ⟨⟨e⟩⟩ i))])/\δ c.heap.size c s:=by
 have t:=y;clear y;go_in;go_wp2_with fail;go_loopw[4] (λp wr=>∃a:Nat,5<=a/\a<=21/\p=ι κ a/\wr=c.alloc (uo 0 0 ⟨#[]⟩ 0)/\Hid (∀(d:Nat) (f:ByteArray),d<a - 5->fm[d]?=σ f->Lib.hasPrefix e f.data.toList=false)) (λp _=>21 - (intOf p).toNat);case atStart=>exact⟨5,by omega,by omega,rfl,rfl,ak (λd f k=>by omega)⟩
 case round=>obtain⟨a,A,I,rfl,rfl,m⟩:=hrel;by_cases x:a<=20;{have C:(a:Int)<=20:=(by omega);obtain⟨b,l⟩:∃b,wN[a]?=σ b:=⟨_,af (show a<wN.length from by show a<49;omega)⟩;have G:(c.alloc (uo 0 0 ⟨#[]⟩ 0)).cell? ⟨2,a,ν⟩=σ (θ b):=(((ah c.heap.size c).alloc (ae _) _).cell (p:=⟨2,a,ν⟩) z).trans (t a b l);cases hp:Lib.hasPrefix e b.data.toList;{go_wp2_with(go_at_call 111;refine(Tryz.strings_HasPrefix _ _ _).mono ?_;rintro E s ⟨rfl,rfl⟩);refine⟨⟨a+1,by omega,by omega,by go_num,trivial,ak (λd f k r=>?_)⟩,by simp[intOf];omega⟩;by_cases D:d<a - 5;{exact m.J d f D r};have g:d=a - 5:=(by omega);rw[g,<- GH a A x,l]at r;cases r;exact hp};have o:fm[a - 5]?=σ b:=(GH a A x).symm.trans l;obtain⟨u,v,w⟩:=GF o hp m.J i;have H:0<b.size:=ZJ o;have j:qb ⟨⟨e⟩⟩ i=(.sign b,b.size):=(by unfold qb;rw[aE (by omega),u,v]);have n:=ak j;have B:=ak w;clear j u v w o;go_wp2_with(go_at_call 111;refine(Tryz.strings_HasPrefix _ _ _).mono ?_;rintro E s ⟨rfl,rfl⟩);have F:(c.alloc (uo a 0 ⟨#[]⟩ 0)).cell? ⟨2,a,ν⟩=σ (θ b):=(((ah c.heap.size c).alloc (ae _) _).cell (p:=⟨2,a,ν⟩) z).trans (t a b l);go_region;all_goals((try go_wp2_with fail);(try simp only[Exit.inBlock,Exit.then]);refine aB (by simp[results,results81,go_sem];rfl) rfl ?_;refine⟨?_,aH ((ah _ _).alloc (ae _) _)⟩;rw[n.J];have g:aU (.sign b)=a:=(by show 5+wO fm b=a;rw[B.J];omega);show _=Ending.returned (.tuple #[χ #[ι κ (aU (.sign b)),ι κ 0,θ ⟨#[]⟩,ι κ 0],ι κ b.size]);rw[g])};have C:¬(a:Int)<=20:=(by omega);have K:a=21:=(by omega);have j:qb ⟨⟨e⟩⟩ i=(.bad,0):=(by unfold qb;rw[aF (Ks (λd f k=>m.J d f (by have:=(aj.mp k).1;have g:fm.length=16:=rfl;omega) k) i)]);have n:=ak j;clear j;go_wp2_with fail;(try simp only[Exit.inBlock,Exit.then]);refine aB (by simp[results,results81,go_sem];rfl) rfl ?_;refine⟨?_,(ah _ _).alloc (ae _) _⟩;rw[n.J];rfl
def sI(T:ByteArray):Tk×Nat:=if 8<aS T dh 0 then(.bad,0)else if cC.any (iZ (T.extract 0 (aS T dh 0)))then(.word (T.extract 0 (aS T dh 0)),aS T dh 0)else(.name (T.extract 0 (aS T dh 0)),aS T dh 0)
theorem Q8(a:Nat)(c:21<=a)(d:a<=48):wN[a]?=cC[a - 21]?:=by
 have b:a=21\/a=22\/a=23\/a=24\/a=25\/a=26\/a=27\/a=28\/a=29\/a=30\/a=31\/a=32\/a=33\/a=34\/a=35\/a=36\/a=37\/a=38\/a=39\/a=40\/a=41\/a=42\/a=43\/a=44\/a=45\/a=46\/a=47\/a=48:=by omega
 rcases b with rfl|rfl|rfl|rfl|rfl|rfl|rfl|rfl|rfl|rfl|rfl|rfl|rfl|rfl|rfl|rfl|rfl|rfl|rfl|rfl|rfl|rfl|rfl|rfl|rfl|rfl|rfl|rfl<;>rfl
theorem VI(b:m[x]?=σ w)(f:iZ w l=true)(j:∀(a:Nat) (c:ByteArray),a<x->m[a]?=σ c->iZ c l=false):wO m l=x:=by have d:x<m.length:=(aj.mp b).1;have k:=jE.mp f;unfold wO;rw[List.findIdx_eq d];have g:m[x]=w:=(aj.mp b).2;refine⟨by rw[g,jE];exact k.symm,λa i=>?_⟩;have:=j a m[a] i (af (by omega));rw[jX,ne_eq,jE]at this ⊢;exactλe=>this e.symm
theorem aiw(b:m[x]?=σ w)(a:iZ w l=true):m.any (iZ l)=true:=by rw[oy];exact⟨w,aA b,by rw[jE]at a ⊢;exact a.symm⟩
theorem aen(e:∀(a:Nat) (b:ByteArray),m[a]?=σ b->iZ b w=false):m.any (iZ w)=false:=by rw[lP];intro g f;obtain⟨a,d⟩:=dz f;have:=e a g d;rw[jX,ne_eq,jE]at this;rw[jE];exactλc=>this c.symm
theorem yC(d:ω)(c:TypeId)(b:ByteArray)(e:n.underlying c=σ .string)(a:Nat)(f:a<=b.size) :
 (Instr.slice c (θ b) ν (σ (ι κ a)) ν).run n d=.ok (θ (b.extract 0 a)) d:=by simp[Instr.slice,run_underlying e,Instr.sliceBounds,run_sliceBound, *]
theorem tA(d:ω)(c:TypeId)(a:ByteArray)(e:n.underlying c=σ .string)(b:Nat)(f:b<=a.size) :
 (Instr.slice c (θ a) (σ (ι κ b)) ν ν).run n d=.ok (θ (a.extract b a.size)) d:=by simp[Instr.slice,run_underlying e,Instr.sliceBounds,run_sliceBound, *]
theorem Kt(a:ByteArray)(b:ω)(e:a.size<=281474976710656):Calls prog 107 #[θ a] b λc f=>c=τ (θ a)/\δ b.heap.size b f:=by go_in;go_wp2_with fail;refine(Tryz.stringslite_Clone a b e).mono ?_;rintro g i ⟨rfl,d⟩;go_wp2_with fail;go_ret;exact⟨rfl,d⟩
theorem bU{a:Array υ}{d:TypeId}(b:v.heap[x]?=σ (ξ a d (0,0)))(c:Nat):v.frozen? (Ad x c)=false:=by simp[World.frozen?,b]
theorem py(g:δ x v t){a:Nat}(i:x<=a)(c d e f:υ):δ x v ((((t.setCell (Ad a 0) c).setCell (Ad a 1) d).setCell (Ad a 2) e).setCell (Ad a 3) f):=
 have b:¬a<x:=by omega
 (((((aX.Cg g).setCell (p:=(Ad a 0)) b c).setCell (p:=(Ad a 1)) b d).setCell (p:=(Ad a 2)) b e).setCell (p:=(Ad a 3)) b f).below
theorem eo{b:ω}{a:Nat}{c d e f:υ}{i:TypeId}(g:b.heap[a]?=σ (ξ #[c,d,e,f] i (0,0))) :
 b.cell? (Ad a 0)=σ c/\b.cell? (Ad a 1)=σ d/\b.cell? (Ad a 2)=σ e/\b.cell? (Ad a 3)=σ f:=by simp[World.cell?,g]
theorem Jw(d:ByteArray)(b:ω)(N:d.size<=300)(Q:Kp b)(R:2<b.heap.size):Calls prog 77 #[θ d] b λk B=>
 k=τ (.tuple #[GD (sI d).1 0,ι κ (Ju (sI d))])/\δ b.heap.size b B:=by
 have E:=fV d dh 0 (aK _);obtain⟨e,p⟩:=nm (aS d dh 0);obtain⟨c,s⟩:=nm (d.extract 0 e);rw[<- p]at E;have ab:∀b,(Instr.slice 9 (θ d) ν (σ (ι κ e)) ν).run prog b=.ok (θ c) b:=λb=>by rw[s];exact yC b 9 d underlying9 e E
 have z:=Fv d (b.alloc (uo 0 0 ⟨#[]⟩ 0)) N;rw[<- p]at z;have C:=z;have F:sI d=if 8<e then(.bad,0)else if cC.any (iZ c)then(.word c,e)else(.name c,e):=by rw[s,p];rfl
 have t:=ak F;have Jt:c.size<=300:=by rw[s,cZ];omega
 clear z F p s;by_cases x:8<e;{have M:(8:Int)<e:=(by omega);go_in;go_wp2_with(go_at_call 106;refine C.mono ?_;rintro Y B ⟨rfl,rfl⟩);(try simp only[Exit.inBlock,Exit.then]);refine aB (by simp[results,results77,go_sem];rfl) rfl ?_;refine⟨?_,(ah _ _).alloc (ae _) _⟩;rw[t.J,aF x];rfl};have M:¬(8:Int)<e:=(by omega);go_in;go_wp2_with(go_at_call 106;refine C.mono ?_;rintro Y B ⟨rfl,rfl⟩);go_loopw[6] (λw wr=>∃a:Nat,21<=a/\a<=49/\w=ι κ a/\wr=b.alloc (uo 0 0 ⟨#[]⟩ 0)/\Hid (∀(f:Nat) (i:ByteArray),f<a - 21->cC[f]?=σ i->iZ i c=false)) (λw _=>49 - (intOf w).toNat);(case atStart=>exact⟨21,by omega,by omega,rfl,rfl,ak (λf i o=>by omega)⟩);case round=>obtain⟨a,T,np,rfl,rfl,u⟩:=hrel;by_cases P:a<=48;{have L:(a:Int)<=48:=(by omega);obtain⟨g,r⟩:∃g,wN[a]?=σ g:=⟨_,af (show a<wN.length from by show a<49;omega)⟩;have m:cC[a - 21]?=σ g:=(Q8 a T P).symm.trans r;have aa:(b.alloc (uo 0 0 ⟨#[]⟩ 0)).cell? (Ad 2 a)=σ (θ g):=(((ah b.heap.size b).alloc (ae _) _).cell (p:=(Ad 2 a)) R).trans (Q a g r);by_cases n:iZ g c=true;{have G:(g.toList==c.toList)=true:=(by rw[mV];exact n);have l:sI d=(.word c,e):=(by rw[t.J,aE x,aF (aiw m n)]);have v:=ak l;have I:=ak (VI m n u.J);clear l r m;go_wp2_with fail;(try simp only[Exit.inBlock,Exit.then]);refine aB (by simp[results,results77,go_sem];rfl) rfl ?_;refine⟨?_,(ah _ _).alloc (ae _) _⟩;rw[v.J];have k:aU (.word c)=a:=(by show 21+wO cC c=a;rw[I.J];omega);show _=Ending.returned (.tuple #[χ #[ι κ (aU (.word c)),ι κ 0,θ ⟨#[]⟩,ι κ 0],ι κ e]);rw[k]};have D:iZ g c=false:=(by simpa using n);have G:(g.toList==c.toList)=false:=(by rw[mV];exact D);have K:=ak m;clear r m;go_wp2_with fail;refine⟨⟨a+1,by omega,by omega,by go_num,trivial,ak (λf i o A=>?_)⟩,by simp[intOf];omega⟩;by_cases O:f<a - 21;{exact u.J f i O A};have k:f=a - 21:=(by omega);rw[k,K.J]at A;cases A;exact D};have L:¬(a:Int)<=48:=(by omega);have yB:a=49:=(by omega);have l:sI d=(.name c,e):=(by rw[t.J,aE x,aE (by rw[aen (λf i o=>u.J f i (by have:=(aj.mp o).1;have k:cC.length=28:=rfl;omega) o)];decide)]);have v:=ak l;clear l;go_wp2_with fail;refine(Kt c _ (by omega)).mono ?_;rintro ac Z ⟨rfl,y⟩;have j:Z.heap[b.heap.size]?=σ (uo 0 0 ⟨#[]⟩ 0):=(y.block b.heap.size (by simp)).trans (au b _);obtain⟨U,V,W,X⟩:=eo j;have z0:=bU j 0;have z1:=bU j 1;have z2:=bU j 2;have z3:=bU j 3;have H:=(((ah b.heap.size b).alloc (ae _) _).trans (y.mono (by simp)));clear y j;go_wp2_with fail;(try simp only[Exit.inBlock,Exit.then]);refine aB (by simp[results,results77,go_sem,U,V,W,X];rfl) rfl ?_;refine⟨?_,py H (ae _) _ _ _ _⟩;rw[v.J];rfl
def wP(T:ByteArray):Tk×Nat:=if 19<aS T dk 0\/9223372036854775807<nK (T.extract 0 (aS T dk 0)).data.toList then(.bad,0)else(.num (nK (T.extract 0 (aS T dk 0)).data.toList),aS T dk 0)
theorem EL(a:dk i=true):48<=i.toNat/\i.toNat<=57:=by unfold dk kE at a;rw[cP,dt,dt]at a;exact a
theorem Co:∀(c:List UInt8) (b:Nat),(∀a∈c,dk a=true)->c.length<=19->b<10 ^ (19 - c.length)->Lib.parseUint10 b c=.ok (c.foldl (λm a=>m*10+(a.toNat - 48)) b)
 |[],b,_,_,_=>rfl
 |a::r,b,hd,hl,ha=>by
   have l:=EL (hd a (by simp));simp only[List.length_cons]at hl ha;have d:19 - r.length=(19 - (r.length+1))+1:=by omega
   have i:b*10+(a.toNat - 48)<10 ^ (19 - r.length):=by
    rw[d,Nat.pow_succ];omega
   have j:10 ^ (19 - r.length)<=10 ^ 19:=dU (by omega) (by omega);have k:10 ^ (19 - (r.length+1))<=10 ^ 18:=dU (by omega) (by omega);have f:(10:Nat) ^ 19=10000000000000000000:=rfl;have e:(10:Nat) ^ 18=1000000000000000000:=rfl;rw[f]at j;rw[e]at k;rw[Lib.parseUint10,aF l,aE (by omega),aE (by omega),jh];exact Co r _ (λa g=>hd a (by simp[g])) (by omega) i
theorem NH(d:∀a∈p,dk a=true)(f:1<=p.length)(g:p.length<=19):Lib.atoiAll p=if 9223372036854775807<nK p then .range else .ok (nK p:Nat):=by
 cases p with
 |nil=>exact absurd f (by decide)
 |cons a b=>
   have k:=EL (d a (by simp));have j:=Co (a::b) 0 d g (Nat.pow_pos (by omega));have i:Lib.parseMag (a::b)=.ok (nK (a::b)):=by
    unfold Lib.parseMag;rw[aE (by simp),j];rfl
   unfold Lib.atoiAll;simp only;rw[aE (by omega),i];simp only;have e:¬a.toNat=45:=by omega
   by_cases c:9223372036854775807<nK (a::b)
   . rw[aF c,aF ⟨e,by omega⟩]
   . rw[aE c,aE (by omega),aE (by omega),aE e]
theorem VJ(a:ByteArray):∀d∈(a.extract 0 (aS a dk 0)).data.toList,dk d=true:=by intro d k;obtain⟨c,b⟩:=dz k;have e:=(aj.mp b).1;have l:=fV a dk 0 (aK _);have f:c<aS a dk 0:=(by have:(a.extract 0 (aS a dk 0)).size=aS a dk 0:=(by rw[cZ];omega);rw[px,this]at e;exact e);obtain⟨i,j⟩:=F2 a dk 0 c (aK _) f;have g:d=a[c]:=(by rw[gF,jR,gK]at b;simp only[List.drop_zero,Nat.sub_zero]at b;rw[gd,aF f,ND a c i]at b;cases b;rfl);rw[g];exact j
def DM(w:ω):Prop:=∃ev,w.cell? ⟨6,0,ν⟩=σ ev/\(ev=.nilIface\/∃te pe,ev=.iface te pe)
theorem DM.below(b:DM v)(f:δ x v t)(e:6<x):DM t:=by obtain⟨a,c,d⟩:=b;exact⟨a,(f.cell (p:=⟨6,0,ν⟩) e).trans c,d⟩
theorem Fw(b:ByteArray)(a:ω)(Q:b.size<=300)(O:0<b.size)(R:dk b[0]=true)(A:DM a)(U:6<a.heap.size):Calls prog 79 #[θ b] a λM k=>
 M=τ (.tuple #[GD (wP b).1 0,ι κ (Ju (wP b))])/\δ a.heap.size a k:=by
 have C:=fV b dk 0 (aK _);have T:1<=aS b dk 0:=by rw[iJ b dk 0 O R];exact fl b dk 1
 obtain⟨d,i⟩:=nm (aS b dk 0);obtain⟨e,j⟩:=nm (b.extract 0 d);rw[<- i]at C T;have Jt:e.size=d:=by rw[j,cZ];omega
 have K:∀L∈e.data.toList,dk L=true:=by rw[j,i];exact VJ b
 have ab:∀a,(Instr.slice 9 (θ b) ν (σ (ι κ d)) ν).run prog a=.ok (θ e) a:=λa=>by rw[j];exact yC a 9 b underlying9 d C
 have u:=GB b (a.alloc (uo 0 0 ⟨#[]⟩ 0)) Q;rw[<- i]at u;have r:=u;have G:wP b=if 19<d\/9223372036854775807<nK e.data.toList then(.bad,0)else(.num (nK e.data.toList),d):=by rw[j,i];rfl
 have n:=ak G;have m:δ a.heap.size a (a.alloc (uo 0 0 ⟨#[]⟩ 0)):=(ah _ _).alloc (ae _) _;have H:=A.below m U;have z:=m;clear u G i j A m;by_cases P:19<d;{have I:(19:Int)<d:=(by omega);go_in;go_wp2_with(go_at_call 106;refine r.mono ?_;rintro E k ⟨rfl,rfl⟩);(try simp only[Exit.inBlock,Exit.then]);refine aB (by simp[results,results79,go_sem];rfl) rfl ?_;refine⟨?_,(ah _ _).alloc (ae _) _⟩;rw[n.J,aF (.inl P)];rfl};have I:¬(19:Int)<d:=(by omega);have g:=NH K (by rw[px];omega) (by rw[px];omega);by_cases t:9223372036854775807<nK e.data.toList;{rw[aF t]at g;obtain⟨N,D,B⟩:=H;have s:=Tryz.strconv_Atoi_range e (by omega) g N _ D B;have p:=ak (show wP b=(.bad,0)from by rw[n.J,aF (.inr t)]);clear g D B;go_in;go_wp2_with(go_at_call 106;refine r.mono ?_;rintro E k ⟨rfl,rfl⟩);refine s.mono ?_;rintro V l ⟨aa,rfl,-,-,f⟩;have c:l.heap[a.heap.size]?=σ (uo 0 0 ⟨#[]⟩ 0):=(f.block a.heap.size (by simp)).trans (au a _);obtain⟨v,w,x,y⟩:=eo c;have W:=bU c 0;have X:=bU c 1;have Y:=bU c 2;have Z:=bU c 3;have o:=z.trans (f.mono (by simp));clear f c;go_wp2_with fail;(try simp only[Exit.inBlock,Exit.then]);refine aB (by simp[results,results79,go_sem,v,w,x,y];rfl) rfl ?_;refine⟨?_,py o (ae _) _ _ _ _⟩;rw[p.J];rfl};rw[aE t]at g;have s:=Tryz.strconv_Atoi_ok e (by omega) _ g (a.alloc (uo 0 0 ⟨#[]⟩ 0));have p:=ak (show wP b=(.num (nK e.data.toList),d)from by rw[n.J,aE (by omega)]);clear g;go_in;go_wp2_with(go_at_call 106;refine r.mono ?_;rintro E k ⟨rfl,rfl⟩);refine s.mono ?_;rintro V l ⟨rfl,F⟩;have f:δ (a.alloc (uo 0 0 ⟨#[]⟩ 0)).heap.size (a.alloc (uo 0 0 ⟨#[]⟩ 0)) l:=(by rcases F with rfl|⟨ac,rfl⟩;{exact ah _ _};exact Lib.bytesWorld_below _ _ _);have c:l.heap[a.heap.size]?=σ (uo 0 0 ⟨#[]⟩ 0):=(f.block a.heap.size (by simp)).trans (au a _);obtain⟨v,w,x,y⟩:=eo c;have W:=bU c 0;have X:=bU c 1;have Y:=bU c 2;have Z:=bU c 3;have o:=z.trans (f.mono (by simp));clear f c F;go_wp2_with fail;(try simp only[Exit.inBlock,Exit.then]);refine aB (by simp[results,results79,go_sem,v,w,x,y];rfl) rfl ?_;refine⟨?_,py o (ae _) _ _ _ _⟩;rw[p.J];rfl
def tB(s:ByteArray):Bool:=decide (s.size<=12)&&s.data.toList.all fq
theorem Ra(a:ByteArray)(b:Nat)(d:b<a.size)(c:fq a[b]=false):tB a=false:=by have:a.data.toList.all fq=false:=List.all_eq_false.2 ⟨a[b],aA (ND a b d),by simp[c]⟩;simp[tB,this]
theorem aeo(a:(i.toNat:Int)<32\/126<(i.toNat:Int)\/(i.toNat:Int)=39):fq i=false:=by rw[jX,ne_eq,yt];omega
theorem qc(a:ByteArray)(g:ω) :
 Calls prog 110 #[θ a] g λj l=>j=τ (.bool (tB a))/\g=l:=by
 by_cases f:a.size<=12
 .have i:(a.size:Int)<=12:=by omega
  go_in;go_wp2;go_loop [9] (λc=>∃b:Nat,b<=a.size/\c=ι κ b/\Hid ((a.data.toList.take b).all fq=true)) (λc=>a.size - (intOf c).toNat);case atStart=>exact⟨0,aK _,rfl,ak (by simp)⟩
  case round=>
   obtain⟨b,n,rfl,d⟩:=hrel;by_cases e:b<a.size
   .have o:(b:Int)<(a.size:Int):=(by omega);go_wp2;all_goals first
     | (have k:((32:Int)<=(a[b].toNat:Int)/\(a[b].toNat:Int)<=126)/\((a[b].toNat:Int)==39)=false:=by assumption
        go_round
        case rel=>
         refine⟨b+1,by omega,by go_num,ak ?_⟩;rw[iW (by rw[px];exact e),List.all_append,d.J];have m:=aL.1 k.2;have:fq a[b]=true:=(yt a[b]).mpr (by omega);simp only[List.all_cons,List.all_nil,Bool.and_true,Bool.true_and];exact this
        case measure=>simp[intOf];omega)
     | (go_ret
        exact⟨bn Ending.returned (bn Value.bool (Ra a b e (aeo (by(try simp only[beq_iff_eq]at *);omega))).symm),rfl⟩)
   go_wp2;go_ret;refine⟨bn Ending.returned (bn Value.bool ?_),rfl⟩;have:=d.J;rw[aI (by rw[px];omega)]at this;simp[tB,f,this]
 have i:(12:Int)<(a.size:Int):=(by omega);go_in;go_wp2;go_ret;refine⟨bn Ending.returned (bn Value.bool ?_),rfl⟩;simp[tB,f]
def DP(c:UInt8):Bool:=c != 39
theorem amy:∀(c:List UInt8),((39:UInt8)∈c->Lib.index c [39]=((c.takeWhile DP).length:Nat))/\((39:UInt8)∉c->Lib.index c [39]=-1)
 |[]=>⟨λb=>by simp at b,λ_=>rfl⟩
 |d::r=>by
   obtain⟨f,g⟩:=amy r;by_cases e:d=39
   . subst e
     refine⟨λ_=>?_,λb=>absurd (by simp) b⟩;rw[Lib.index,aF (by simp[List.isPrefixOf])];simp[DP]
   . have i:([39]:List UInt8).isPrefixOf (d::r)=false:=by
      simp[List.isPrefixOf];exactλa=>e a.symm
     have k:(d::r).takeWhile DP=d::r.takeWhile DP:=by
      rw[fF,aF (by simp[DP,e])]
     rw[Lib.index,aE (by rw[i];decide),k];constructor
     . intro b
       have j:(39:UInt8)∈r:=by
        rcases bF.mp b with a|a
        . exact absurd a.symm e
        . exact a
       rw[f j,aE (by simp)];simp
     . intro b
       rw[g (λa=>b (cy _ a)),aF (by decide)]
theorem agI:∀(b:List UInt8),((39:UInt8)∈b->(b.takeWhile DP).all fq=true->b[(b.takeWhile fq).length]?=σ 39/\b.takeWhile fq=b.takeWhile DP)/\(b[(b.takeWhile fq).length]?=σ 39->(39:UInt8)∈b/\(b.takeWhile DP).all fq=true)
 |[]=>⟨λa=>by simp at a,λa=>by simp at a⟩
 |c::r=>by
   obtain⟨j,k⟩:=agI r;by_cases d:c=39
   . subst d
     have e:fq 39=false:=by decide
     have n:((39:UInt8)::r).takeWhile fq=[]:=by rw[fF,aE (by rw[e];decide)]
     have o:((39:UInt8)::r).takeWhile DP=[]:=by rw[fF,aE (by decide)]
     rw[n,o];exact⟨λ_ _=>⟨rfl,rfl⟩,λ_=>⟨by simp,rfl⟩⟩
   . rw[fF,fF,aF (show DP c=true from by simp[DP,d])]
     cases e:fq c with
     |true=>
       simp only[if_true,List.length_cons,List.getElem?_cons_succ,List.all_cons,e,Bool.true_and];constructor
       . intro a l
         have m:(39:UInt8)∈r:=by
          rcases bF.mp a with f|f
          . exact absurd f.symm d
          . exact f
         obtain⟨g,i⟩:=j m l;exact⟨g,by rw[i]⟩
       . intro a
         obtain⟨g,i⟩:=k a;exact⟨cy _ g,i⟩
     |false=>
       simp only[List.all_cons,e,Bool.false_and];refine⟨λ_ a=>absurd a (by decide),λa=>?_⟩;simp at a;exact absurd a d
def qd(T:ByteArray):Tk×Nat:=if h2:aS T fq 1<T.size then(if T[aS T fq 1].toNat=39/\aS T fq 1 - 1<=12 then(.str (T.extract 1 (aS T fq 1)),aS T fq 1+1)else(.bad,0))else(.bad,0)
theorem DQ(b:ByteArray)(c:UInt8->Bool)(a:Nat)(e:a<=b.size):aS b c a=a+((b.data.toList.drop a).takeWhile c).length:=by have f:=Kq b c _ a rfl e;have d:=bn List.length (qI (p:=c) (l:=b.data.toList.drop a));rw[az,bW,px]at d;omega
theorem LC(a:ByteArray)(b:Nat):(a.extract b a.size).data.toList=a.data.toList.drop b:=by rw[gF,jR,gK];rw[aI];rw[bW,px];exact ae _
theorem aix(b:ByteArray)(a c:Nat):(b.extract a (a+c)).data.toList=(b.data.toList.drop a).take c:=by rw[gF,jR,gK];congr 1;omega
theorem LD(a:w.data.toList=l.data.toList):w=l:=vx (oz.mp a)
theorem ZL(a:ByteArray)(A:0<a.size):qd a=(if(Lib.cut (a.extract 1 a.size).data.toList [39]).2.2&&tB ⟨(Lib.cut (a.extract 1 a.size).data.toList [39]).1.toArray⟩then(.str ⟨(Lib.cut (a.extract 1 a.size).data.toList [39]).1.toArray⟩,(Lib.cut (a.extract 1 a.size).data.toList [39]).1.length+2)else(.bad,0)):=by
 rw[LC];obtain⟨b,f⟩:=nm (a.data.toList.drop 1);rw[<- f];have E:b.length=a.size - 1:=by rw[f,bW,px]
 have i:=DQ a fq 1 A;rw[<- f]at i;have m:∀g (u:1+g<a.size),b[g]?=σ a[1+g]:=λg u=>by
  rw[f,il];exact ND a (1+g) u
 obtain⟨x,y⟩:=amy b;obtain⟨w,s⟩:=agI b;have D:(b.takeWhile DP).length<=b.length:=(List.takeWhile_prefix DP).length_le;have v:b.take (b.takeWhile DP).length=b.takeWhile DP:=(List.prefix_iff_eq_take.mp (List.takeWhile_prefix DP)).symm;unfold qd;by_cases k:(39:UInt8)∈b;{have hcut:Lib.cut b [39]=(b.takeWhile DP,b.drop ((b.takeWhile DP).length+1),true):=(by unfold Lib.cut;rw[x k,aF (by omega)];simp[v]);rw[hcut];simp only[Bool.true_and];by_cases l:(b.takeWhile DP).all fq=true;{obtain⟨t,j⟩:=w k l;have n:aS a fq 1<a.size:=(by have:=(aj.mp t).1;omega);rw[jH n];have d:a[aS a fq 1].toNat=39:=(by have c:=m (b.takeWhile fq).length (by omega);rw[t]at c;have z:(39:UInt8)=a[1+(b.takeWhile fq).length]:=bf c;have e:a[aS a fq 1]=a[1+(b.takeWhile fq).length]'(by omega):=(by congr 1);rw[e,<- z];rfl);have r:tB ⟨(b.takeWhile DP).toArray⟩=decide ((b.takeWhile DP).length<=12):=(by unfold tB;show(decide ((b.takeWhile DP).length<=12)&&(b.takeWhile DP).all fq)=_;rw[l,Bool.and_true]);rw[r];by_cases p:(b.takeWhile DP).length<=12;{rw[aF ⟨d,by rw[i,j];omega⟩,aF (by simpa using p)];have B:a.extract 1 (aS a fq 1)=⟨(b.takeWhile DP).toArray⟩:=(by apply LD;rw[i,aix,<- f,j,v]);rw[B,i,j];congr 1;omega};rw[aE (λC=>p (by have:=C.2;rw[i,j]at this;omega)),aE (by simpa using p)]};have r:tB ⟨(b.takeWhile DP).toArray⟩=false:=(by unfold tB;show(decide _&&(b.takeWhile DP).all fq)=_;rw[jX.mpr l,Bool.and_false]);rw[r,aE (show¬(false=true)from by decide)];split;{rename_i n;rw[aE];rintro⟨d,-⟩;have c:=m (b.takeWhile fq).length (by omega);have e:a[aS a fq 1]=a[1+(b.takeWhile fq).length]'(by omega):=(by congr 1);rw[e]at d;have o:a[1+(b.takeWhile fq).length]'(by omega)=39:=jg.mp d;rw[o]at c;exact l (s c).2};rfl};have hcut:Lib.cut b [39]=(b,[],false):=(by unfold Lib.cut;rw[y k,aE (by decide)]);rw[hcut,aE (by simp)];split;{rename_i n;rw[aE];rintro⟨d,-⟩;have c:=m (b.takeWhile fq).length (by omega);have e:a[aS a fq 1]=a[1+(b.takeWhile fq).length]'(by omega):=(by congr 1);rw[e]at d;have o:a[1+(b.takeWhile fq).length]'(by omega)=39:=jg.mp d;rw[o]at c;exact k (s c).1};rfl
