import Derived.Test.YtfeckmaleonjjaaGreatDoorFAC
import Derived.Test.YtfeckmaleonjjaaGreatDoorFSH
set_option maxHeartbeats 0
set_option maxRecDepth 100000
namespace Go.Proofs.YtfeckmaleonjjaaGreatDoor
open List renaming length→Λ
open Go.RowKit
open _root_.Go.Proofs.Tryz
open Option renaming some→σ,none→ν
open Go.IntKind renaming i64→κ
open Go.Ending renaming returned→τ
open Go renaming World→ω,Value→υ
open Go.Value renaming int→ι,string→θ
variable{w l:Γ}{p:Δ UInt8}{m:Δ Γ}{x:Nat}{v r:ω}{n:Program}{i:TypeId}{t:UInt8}
def gB:Δ Γ:=[bs [60,62],bs [60,61],bs [62,61],bs [61],bs [60],bs [62],bs [40],bs [41],bs [44],bs [124],bs [58],bs [43],bs [45],bs [42],bs [47],bs [37]]
def yB:Δ Γ:=[bs [],bs [],bs [],bs [],bs []]++gB++cY
def Mk(w:ω):Prop:=∀i s,yB[i]?=σ s->w.cell? ⟨2,i,ν⟩=σ (θ s)
theorem Mk.aU(b:Mk v)(d:Below x v r)(c:2<x):Mk r:=λa f e=>(d.cell (p:=⟨2,a,ν⟩) c).trans (b a f e)
def yC(l:Δ Γ)(s:Γ):Nat:=l.findIdx (ct s)
def bf:Tk->Nat
 |.stop=>0
 |.bad=>1
 |.aI _=>2
 |.num _=>3
 |.str _=>4
 |.sign s=>5+yC gB s
 |.cU s=>21+yC cY s
def dC:Tk->Γ
 |.aI s=>s
 |.str s=>s
 |_=>⟨#[]⟩
def iQ:Tk->Nat
 |.num n=>n
 |_=>0
def WD(k:Tk)(pl:Nat):Δ υ:=[ι κ (bf k),ι κ pl,θ (dC k),ι κ (iQ k)]
def IQ(k:Tk)(pl:Nat):υ:=.agg #[ι κ (bf k),ι κ pl,θ (dC k),ι κ (iQ k)]
def KV(r:Tk×Nat):Nat:=if r.1.ends then 0 else r.2
theorem qH(a:Γ):Λ a.data.toList=a.size:=by rw[dF];rfl
theorem Qy(b:Γ)(a:Nat)(c:a<b.size):b.data.toList[a]?=σ b[a]:=by rw[af (by rw[qH];exact c)];rfl
theorem Ml(b:Γ)(c:UInt8->Bool):∀(d a:Nat),b.size - a=d->a<=b.size->aZ b c a+((b.data.toList.drop a).dropWhile c).length=b.size:=by intro d;induction d with|zero=>(intro a i g;rw[oU b c a (by omega),rR (by rw[qH];omega)];simp;omega)|succ d j=>intro a i g;have e:a<b.size:=(by omega);have f:b.data.toList.drop a=b[a]::b.data.toList.drop (a+1):=(by rw[cL (by rw[qH];exact e)];rfl);rw[f,List.dropWhile_cons];cases hb:c b[a]with|true=>(rw[jP b c a e hb];simp only[if_true];exact j (a+1) (by omega) (by omega))|false=>rw[nV b c a e hb];simp;omega
theorem Un(a:Γ)(i:ω)(m:a.size<=300):Calls prog 70 #[θ a] i λb j=>b=τ (ι κ (aZ a dh 0))/\i=j:=by
 have f:=Ml a dh _ 0 rfl (aB _);have g:Lib.trimLeftB a.data.toList 32=a.data.toList.dropWhile dh:=(by unfold Lib.trimLeftB;congr 1;funext c;unfold dh;rw[jt,dR,dY];exact⟨λd=>by rw[d];rfl,λd=>ju.mp d⟩);rw[List.drop_zero,<- g]at f;obtain⟨k,e⟩:=nm ((Lib.trimLeftB a.data.toList 32).length);have l:(ByteArray.mk (Lib.trimLeftB a.data.toList 32).toArray).size=k:=by rw[e];simp[ByteArray.size]
 rw[<- e]at f;clear g;go_in;go_wp2_with(go_at_call 96;refine(Tryz.strings_TrimLeft_one a 32 (by decide) _).mono ?_;rintro n j ⟨rfl,rfl⟩);go_ret;refine⟨?_,rfl⟩;have b:((a.size:Int) - (Lib.trimLeftB a.data.toList 32).length)=(aZ a dh 0:Nat):=by rw[<- e];omega
 show Ending.returned (Value.int κ ((a.size:Int) - (Lib.trimLeftB a.data.toList 32).length))=_;rw[b]
theorem Qz(a:w.data.toList <+: p):(ByteArray.mk ⟨p⟩).extract 0 w.size=w:=by apply wO;apply pF.mp;rw[iM,lf];obtain⟨c,rfl⟩:=a;have b:w.size=Λ w.data.toList:=(qH w).symm;rw[iX,b];simp
theorem aks(a:Lib.hasPrefix p w.data.toList=true):w.data.toList <+: p:=List.isPrefixOf_iff_prefix.mp a
theorem IU{k:Nat}(c:gB[k]?=σ w)(a:Lib.hasPrefix p w.data.toList=true)(i:∀r z,r<k->gB[r]?=σ z->Lib.hasPrefix p z.data.toList=false)(j:0<(ByteArray.mk ⟨p⟩).size) :
 fO ⟨⟨p⟩⟩ 0 j=w.size/\(ByteArray.mk ⟨p⟩).extract 0 w.size=w/\yC gB w=k:=by
 have E:k<16:=(ah.mp c).1;refine⟨?_,Qz (aks a),?_⟩
 .cases p with
  |nil=>exact absurd j (by decide)
  |cons f l=>
   have v:=λe=>i 0 _ e rfl;have x:=λe=>i 1 _ e rfl;have y:=λe=>i 2 _ e rfl;clear i;have g:k=0\/k=1\/k=2\/k=3\/k=4\/k=5\/k=6\/k=7\/k=8\/k=9\/k=10\/k=11\/k=12\/k=13\/k=14\/k=15:=(by omega);cases l with
   |nil=>
    rcases g with rfl|rfl|rfl|rfl|rfl|rfl|rfl|rfl|rfl|rfl|rfl|rfl|rfl|rfl|rfl|rfl <;>
     (cases c;simp[Lib.hasPrefix,bs,List.isPrefixOf]at a)<;>(subst a;rfl)
   |cons b l=>
    have o:fO ⟨⟨f::b::l⟩⟩ 0 j=(if(f.toNat=60/\(b.toNat=62\/b.toNat=61))\/(f.toNat=62/\b.toNat=61)then 2 else if f.toNat∈[40,41,44,124,58,61,60,62,43,45,42,47,37]then 1 else 0):=rfl;rw[o];clear o;by_cases m:k=4;{subst m;cases c;have s:=v (by omega);have t:=x (by omega);simp[Lib.hasPrefix,bs,List.isPrefixOf]at a s t;subst a;have B:¬b.toNat=62:=λd=>s rfl (ju.mp d).symm;have C:¬b.toNat=61:=λd=>t rfl (ju.mp d).symm;simp[B,C];rfl}
    by_cases n:k=5;{subst n;cases c;have u:=y (by omega);simp[Lib.hasPrefix,bs,List.isPrefixOf]at a u;subst a;have D:¬b.toNat=61:=λd=>u rfl (ju.mp d).symm;simp[D];rfl}
    clear v x y;have A:k=0\/k=1\/k=2\/k=3\/k=6\/k=7\/k=8\/k=9\/k=10\/k=11\/k=12\/k=13\/k=14\/k=15:=(by omega);clear g m n E;rcases A with rfl|rfl|rfl|rfl|rfl|rfl|rfl|rfl|rfl|rfl|rfl|rfl|rfl|rfl <;>
     (cases c;simp[Lib.hasPrefix,bs,List.isPrefixOf]at a)<;>first|(obtain⟨F,G⟩:=a;subst F;subst G;rfl)|(subst a;rfl)
 have g:k=0\/k=1\/k=2\/k=3\/k=4\/k=5\/k=6\/k=7\/k=8\/k=9\/k=10\/k=11\/k=12\/k=13\/k=14\/k=15:=(by omega);rcases g with rfl|rfl|rfl|rfl|rfl|rfl|rfl|rfl|rfl|rfl|rfl|rfl|rfl|rfl|rfl|rfl<;>(cases c;decide)
theorem Mn(k:∀(c:Nat) (n:Γ),gB[c]?=σ n->Lib.hasPrefix p n.data.toList=false)(j:0<(ByteArray.mk ⟨p⟩).size):fO ⟨⟨p⟩⟩ 0 j=0:=by
 cases p with
 |nil=>exact absurd j (by decide)
 |cons b m=>
  have one:∀(c:Nat) (d:UInt8),gB[c]?=σ (bs [d])->¬b.toNat=d.toNat:=λc d E r=>by
   have:=k c _ E;have s:b=d:=ju.mp r;subst s;simp[Lib.hasPrefix,bs,List.isPrefixOf]at this
  have z:=one 3 61 rfl;have g:=one 4 60 rfl;have i:=one 5 62 rfl;have A:=one 6 40 rfl;have B:=one 7 41 rfl;have C:=one 8 44 rfl;have D:=one 9 124 rfl;have t:=one 10 58 rfl;have u:=one 11 43 rfl;have v:=one 12 45 rfl;have w:=one 13 42 rfl;have x:=one 14 47 rfl;have y:=one 15 37 rfl;clear k one;have F:(60:UInt8).toNat=60:=rfl;have G:(62:UInt8).toNat=62:=rfl;have l:∀e,(if(b.toNat=60/\(e=62\/e=61))\/(b.toNat=62/\e=61)then 2 else if b.toNat∈[40,41,44,124,58,61,60,62,43,45,42,47,37]then 1 else 0)=0:=by
   intro e;rw[aH (by rintro(⟨f,_⟩|⟨f,_⟩);exact g f;exact i f),aH];intro a;simp only[List.mem_cons,List.mem_nil_iff,or_false]at a;rcases a with a|a|a|a|a|a|a|a|a|a|a|a|a
   {exact A a};{exact B a};{exact C a};{exact D a};{exact t a};{exact z a};{exact g a};{exact i a};{exact u a};{exact v a};{exact w a};{exact x a};exact y a
  cases m with|nil=>exact l 0|cons o m=>exact l o.toNat
def rI(T:Γ)(h:0<T.size):Tk×Nat:=if fO T 0 h=0 then(.bad,0)else(.sign (T.extract 0 (fO T 0 h)),fO T 0 h)
theorem IV(a:Nat)(c:5<=a)(d:a<=20):yB[a]?=gB[a - 5]?:=by
 have b:a=5\/a=6\/a=7\/a=8\/a=9\/a=10\/a=11\/a=12\/a=13\/a=14\/a=15\/a=16\/a=17\/a=18\/a=19\/a=20:=by omega
 rcases b with rfl|rfl|rfl|rfl|rfl|rfl|rfl|rfl|rfl|rfl|rfl|rfl|rfl|rfl|rfl|rfl<;>rfl
theorem acw(a:gB[x]?=σ w):0<w.size:=by
 have c:x<16:=(ah.mp a).1;have b:x=0\/x=1\/x=2\/x=3\/x=4\/x=5\/x=6\/x=7\/x=8\/x=9\/x=10\/x=11\/x=12\/x=13\/x=14\/x=15:=by omega
 rcases b with rfl|rfl|rfl|rfl|rfl|rfl|rfl|rfl|rfl|rfl|rfl|rfl|rfl|rfl|rfl|rfl<;>(cases a;decide)
theorem KW(e:Δ UInt8)(c:ω)(i:0<(ByteArray.mk ⟨e⟩).size)(y:Mk c)(z:2<c.heap.size):Calls prog 102 #[θ ⟨⟨e⟩⟩] c λg s=>
 g=τ (.tuple #[IQ (rI ⟨⟨e⟩⟩ i).1 0,ι κ (KV (rI ⟨⟨e⟩⟩ i))])/\Below c.heap.size c s:=by
 have t:=y;clear y;go_in;go_wp2;go_loopw[4] (λp wr=>∃a:Nat,5<=a/\a<=21/\p=ι κ a/\wr=c.alloc (vF 0 0 ⟨#[]⟩ 0)/\Hid (∀(d:Nat) (f:Γ),d<a - 5->gB[d]?=σ f->Lib.hasPrefix e f.data.toList=false)) (λp _=>21 - (intOf p).toNat);case atStart=>exact⟨5,by omega,by omega,rfl,rfl,ak (λd f k=>by omega)⟩
 case round=>obtain⟨a,A,K,rfl,rfl,m⟩:=hrel;by_cases x:a<=20;{have E:(a:Int)<=20:=(by omega);obtain⟨b,l⟩:∃b,yB[a]?=σ b:=⟨_,af (show a<Λ yB from by show a<49;omega)⟩;have H:(c.alloc (vF 0 0 ⟨#[]⟩ 0)).cell? ⟨2,a,ν⟩=σ (θ b):=(((aj c.heap.size c).alloc (ae _) _).cell (p:=⟨2,a,ν⟩) z).trans (t a b l);cases hp:Lib.hasPrefix e b.data.toList;{go_wp2_with(go_at_call 146;refine(Tryz.strings_HasPrefix _ _ _).mono ?_;rintro D s ⟨rfl,rfl⟩);refine⟨⟨a+1,by omega,by omega,by go_num,trivial,ak (λd f k r=>?_)⟩,by simp[intOf];omega⟩;by_cases C:d<a - 5;{exact m.J d f C r};have g:d=a - 5:=(by omega);rw[g,<- IV a A x,l]at r;cases r;exact hp};have o:gB[a - 5]?=σ b:=(IV a A x).symm.trans l;obtain⟨u,v,w⟩:=IU o hp m.J i;have I:0<b.size:=acw o;have j:rI ⟨⟨e⟩⟩ i=(.sign b,b.size):=(by unfold rI;rw[aH (by omega),u,v]);have n:=ak j;have B:=ak w;clear j u v w o;go_wp2_with(go_at_call 146;refine(Tryz.strings_HasPrefix _ _ _).mono ?_;rintro D s ⟨rfl,rfl⟩);have G:(c.alloc (vF a 0 ⟨#[]⟩ 0)).cell? ⟨2,a,ν⟩=σ (θ b):=(((aj c.heap.size c).alloc (ae _) _).cell (p:=⟨2,a,ν⟩) z).trans (t a b l);go_region;all_goals (try go_wp2);(try simp only[Exit.inBlock,Exit.then]);refine aE (by simp[results,results102,go_sem];rfl) rfl ?_;refine⟨?_,aP ((aj _ _).alloc (ae _) _)⟩;rw[n.J];have g:bf (.sign b)=a:=(by show 5+yC gB b=a;rw[B.J];omega);show _=Ending.returned (.tuple #[.agg #[ι κ (bf (.sign b)),ι κ 0,θ ⟨#[]⟩,ι κ 0],ι κ b.size]);rw[g]};have E:¬(a:Int)<=20:=(by omega);have F:a=21:=(by omega);have j:rI ⟨⟨e⟩⟩ i=(.bad,0):=(by unfold rI;rw[aN (Mn (λd f k=>m.J d f (by have:=(ah.mp k).1;have g:Λ gB=16:=rfl;omega) k) i)]);have n:=ak j;clear j;go_wp2;(try simp only[Exit.inBlock,Exit.then]);refine aE (by simp[results,results102,go_sem];rfl) rfl ?_;refine⟨?_,(aj _ _).alloc (ae _) _⟩;rw[n.J];rfl
def uA(T:Γ):Tk×Nat:=if 8<aZ T dP 0 then(.bad,0)else if cY.any (ct (T.extract 0 (aZ T dP 0)))then(.cU (T.extract 0 (aZ T dP 0)),aZ T dP 0)else(.aI (T.extract 0 (aZ T dP 0)),aZ T dP 0)
theorem Uo(a:Nat)(c:21<=a)(d:a<=48):yB[a]?=cY[a - 21]?:=by
 have b:a=21\/a=22\/a=23\/a=24\/a=25\/a=26\/a=27\/a=28\/a=29\/a=30\/a=31\/a=32\/a=33\/a=34\/a=35\/a=36\/a=37\/a=38\/a=39\/a=40\/a=41\/a=42\/a=43\/a=44\/a=45\/a=46\/a=47\/a=48:=by omega
 rcases b with rfl|rfl|rfl|rfl|rfl|rfl|rfl|rfl|rfl|rfl|rfl|rfl|rfl|rfl|rfl|rfl|rfl|rfl|rfl|rfl|rfl|rfl|rfl|rfl|rfl|rfl|rfl|rfl<;>rfl
theorem YD(b:m[x]?=σ w)(f:ct w l=true)(j:∀(a:Nat) (c:Γ),a<x->m[a]?=σ c->ct c l=false):yC m l=x:=by have d:x<Λ m:=(ah.mp b).1;have k:=cD.mp f;unfold yC;rw[List.findIdx_eq d];have g:m[x]=w:=(ah.mp b).2;refine⟨by rw[g,cD];exact k.symm,λa i=>?_⟩;have:=j a m[a] i (af (by omega));rw[lz,ne_eq,cD]at this ⊢;exactλe=>this e.symm
theorem aku(b:m[x]?=σ w)(a:ct w l=true):m.any (ct l)=true:=by rw[kM];exact⟨w,aq b,by rw[cD]at a ⊢;exact a.symm⟩
theorem agh(e:∀(a:Nat) (b:Γ),m[a]?=σ b->ct b w=false):m.any (ct w)=false:=by rw[jh];intro g f;have⟨a,d⟩:=cB f;have:=e a g d;rw[lz,ne_eq,cD]at this;rw[cD];exactλc=>this c.symm
theorem Al(d:ω)(c:TypeId)(b:Γ)(e:n.underlying c=σ .string)(a:Nat)(f:a<=b.size) :
 (Instr.slice c (θ b) ν (σ (ι κ a)) ν).run n d=.ok (θ (b.extract 0 a)) d:=by simp[Instr.slice,run_underlying e,Instr.sliceBounds,run_sliceBound, *]
theorem uW(d:ω)(c:TypeId)(a:Γ)(e:n.underlying c=σ .string)(b:Nat)(f:b<=a.size) :
 (Instr.slice c (θ a) (σ (ι κ b)) ν ν).run n d=.ok (θ (a.extract b a.size)) d:=by simp[Instr.slice,run_underlying e,Instr.sliceBounds,run_sliceBound, *]
theorem Mp(a:Γ)(b:ω)(e:a.size<=281474976710656):Calls prog 142 #[θ a] b λc f=>c=τ (θ a)/\Below b.heap.size b f:=by go_in;go_wp21;refine(Tryz.stringslite_Clone a b e).mono ?_;rintro g i ⟨rfl,d⟩;go_wp2;go_ret;exact⟨rfl,d⟩
theorem cF{a:Array υ}(b:v.heap[x]?=σ (.cells a i (0,0)))(c:Nat):v.frozen? (Ad x c)=false:=by simp[World.frozen?,b]
theorem qI(g:Below x v r){a:Nat}(i:x<=a)(c d e f:υ):Below x v ((((r.setCell (Ad a 0) c).setCell (Ad a 1) d).setCell (Ad a 2) e).setCell (Ad a 3) f):=
 have b:¬a<x:=by omega
 (((((bu.Dv g).setCell (p:=(Ad a 0)) b c).setCell (p:=(Ad a 1)) b d).setCell (p:=(Ad a 2)) b e).setCell (p:=(Ad a 3)) b f).aU
theorem kJ{a b c d:υ}(e:v.heap[x]?=σ (.cells #[a,b,c,d] i (0,0))) :
 v.cell? (Ad x 0)=σ a/\v.cell? (Ad x 1)=σ b/\v.cell? (Ad x 2)=σ c/\v.cell? (Ad x 3)=σ d:=by simp[World.cell?,e]
theorem KX(d:Γ)(b:ω)(L:d.size<=300)(O:Mk b)(P:2<b.heap.size):Calls prog 98 #[θ d] b λj B=>
 j=τ (.tuple #[IQ (uA d).1 0,ι κ (KV (uA d))])/\Below b.heap.size b B:=by
 have E:=iq d dP 0 (aB _);have⟨e,r⟩:=nm (aZ d dP 0);have⟨c,t⟩:=nm (d.extract 0 e);rw[<- r]at E;have ab:∀b,(Instr.slice 9 (θ d) ν (σ (ι κ e)) ν).run prog b=.ok (θ c) b:=λb=>by rw[t];exact Al b 9 d underlying9 e E
 have z:=Gz d (b.alloc (vF 0 0 ⟨#[]⟩ 0)) L;rw[<- r]at z;have C:=z;have F:uA d=if 8<e then(.bad,0)else if cY.any (ct c)then(.cU c,e)else(.aI c,e):=by rw[t,r];rfl
 have w:=ak F;have Kt:c.size<=300:=by rw[t,dJ];omega
 clear z F r t;by_cases n:8<e;{have K:=aX.2 n;go_in;go_wp2_with(go_at_call 141;refine C.mono ?_;rintro X B ⟨rfl,rfl⟩);(try simp only[Exit.inBlock,Exit.then]);refine aE (by simp[results,results98,go_sem];rfl) rfl ?_;refine⟨?_,(aj _ _).alloc (ae _) _⟩;rw[w.J,aN n];rfl};have K:¬(8:Int)<e:=(by omega);go_in;go_wp2_with(go_at_call 141;refine C.mono ?_;rintro X B ⟨rfl,rfl⟩);go_loopw[6] (λx wr=>∃a:Nat,21<=a/\a<=49/\x=ι κ a/\wr=b.alloc (vF 0 0 ⟨#[]⟩ 0)/\Hid (∀(f:Nat) (i:Γ),f<a - 21->cY[f]?=σ i->ct i c=false)) (λx _=>49 - (intOf x).toNat);(case atStart=>exact⟨21,by omega,by omega,rfl,rfl,ak (λf i p=>by omega)⟩);case round=>obtain⟨a,Q,j6,rfl,rfl,u⟩:=hrel;by_cases N:a<=48;{have Z:(a:Int)<=48:=(by omega);obtain⟨g,s⟩:∃g,yB[a]?=σ g:=⟨_,af (show a<Λ yB from by show a<49;omega)⟩;have m:cY[a - 21]?=σ g:=(Uo a Q N).symm.trans s;have aa:(b.alloc (vF 0 0 ⟨#[]⟩ 0)).cell? (Ad 2 a)=σ (θ g):=(((aj b.heap.size b).alloc (ae _) _).cell (p:=(Ad 2 a)) P).trans (O a g s);by_cases o:ct g c=true;{have xU:(g.toList==c.toList)=true:=(by rw[iZ];exact o);have l:uA d=(.cU c,e):=(by rw[w.J,aH n,aN (aku m o)]);have v:=ak l;have H:=ak (YD m o u.J);clear l s m;go_wp2;(try simp only[Exit.inBlock,Exit.then]);refine aE (by simp[results,results98,go_sem];rfl) rfl ?_;refine⟨?_,(aj _ _).alloc (ae _) _⟩;rw[v.J];have j:bf (.cU c)=a:=(by show 21+yC cY c=a;rw[H.J];omega);show _=Ending.returned (.tuple #[.agg #[ι κ (bf (.cU c)),ι κ 0,θ ⟨#[]⟩,ι κ 0],ι κ e]);rw[j]};have D:ct g c=false:=(by simpa using o);have xU:(g.toList==c.toList)=false:=(by rw[iZ];exact D);have I:=ak m;clear s m;go_wp2;refine⟨⟨a+1,by omega,by omega,by go_num,trivial,ak (λf i p A=>?_)⟩,by simp[intOf];omega⟩;by_cases M:f<a - 21;{exact u.J f i M A};have j:f=a - 21:=(by omega);rw[j,I.J]at A;cases A;exact D};have Z:¬(a:Int)<=48:=(by omega);have BS:a=49:=(by omega);have l:uA d=(.aI c,e):=(by rw[w.J,aH n,aH (by rw[agh (λf i p=>u.J f i (by have:=(ah.mp p).1;have j:Λ cY=28:=rfl;omega) p)];decide)]);have v:=ak l;clear l;go_wp21;refine(Mp c _ (by omega)).mono ?_;rintro ac Y ⟨rfl,y⟩;have k:Y.heap[b.heap.size]?=σ (vF 0 0 ⟨#[]⟩ 0):=(y.block b.heap.size (by simp)).trans (az b _);have⟨R,T,U,V⟩:=kJ k;have z0:=cF k 0;have z1:=cF k 1;have z2:=cF k 2;have z3:=cF k 3;have G:=(((aj b.heap.size b).alloc (ae _) _).trans (y.mono (by simp)));clear y k;go_wp2;(try simp only[Exit.inBlock,Exit.then]);refine aE (by simp[results,results98,go_sem,R,T,U,V];rfl) rfl ?_;refine⟨?_,qI G (ae _) _ _ _ _⟩;rw[v.J];rfl
def yD(T:Γ):Tk×Nat:=if 19<aZ T dV 0\/9223372036854775807<oK (T.extract 0 (aZ T dV 0)).data.toList then(.bad,0)else(.num (oK (T.extract 0 (aZ T dV 0)).data.toList),aZ T dV 0)
theorem F6(a:dV t=true):48<=t.toNat/\t.toNat<=57:=by unfold dV lK at a;rw[cH,dY,dY]at a;exact a
theorem D2:∀(c:Δ UInt8) (b:Nat),(∀a∈c,dV a=true)->Λ c<=19->b<10 ^ (19 - Λ c)->Lib.parseUint10 b c=.ok (c.foldl (λm a=>m*10+(a.toNat - 48)) b)
 |[],b,_,_,_=>rfl
 |a::r,b,hd,hl,ha=>by
   have l:=F6 (hd a (by simp));simp only[List.length_cons]at hl ha;have d:19 - Λ r=(19 - (Λ r+1))+1:=by omega
   have i:b*10+(a.toNat - 48)<10 ^ (19 - Λ r):=by
    rw[d,Nat.pow_succ];omega
   have j:10 ^ (19 - Λ r)<=10 ^ 19:=eU (by omega) (by omega);have k:10 ^ (19 - (Λ r+1))<=10 ^ 18:=eU (by omega) (by omega);have f:(10:Nat) ^ 19=10000000000000000000:=rfl;have e:(10:Nat) ^ 18=1000000000000000000:=rfl;rw[f]at j;rw[e]at k;rw[Lib.parseUint10,aN l,aH (by omega),aH (by omega),ke];exact D2 r _ (λa g=>hd a (by simp[g])) (by omega) i
theorem QB(d:∀a∈p,dV a=true)(f:1<=Λ p)(g:Λ p<=19):Lib.atoiAll p=if 9223372036854775807<oK p then .range else .ok (oK p:Nat):=by cases p with|nil=>(exact absurd f (by decide))|cons a b=>have k:=F6 (d a (by simp));have j:=D2 (a::b) 0 d g (Nat.pow_pos (by omega));have i:Lib.parseMag (a::b)=.ok (oK (a::b)):=(by unfold Lib.parseMag;rw[aH (by simp),j];rfl);unfold Lib.atoiAll;simp only;rw[aH (by omega),i];simp only;have e:¬a.toNat=45:=(by omega);by_cases c:9223372036854775807<oK (a::b);{rw[aN c,aN ⟨e,by omega⟩]};rw[aH c,aH (by omega),aH (by omega),aH e]
theorem YE(a:Γ):∀d∈(a.extract 0 (aZ a dV 0)).data.toList,dV d=true:=by intro d k;obtain⟨c,b⟩:=cB k;have e:=(ah.mp b).1;have l:=iq a dV 0 (aB _);have f:c<aZ a dV 0:=(by have:(a.extract 0 (aZ a dV 0)).size=aZ a dV 0:=(by rw[dJ];omega);rw[qH,this]at e;exact e);obtain⟨i,j⟩:=G2 a dV 0 c (aB _) f;have g:d=a[c]:=(by rw[iM,lf,iX]at b;simp only[List.drop_zero,Nat.sub_zero]at b;rw[dL,aN f,Qy a c i]at b;cases b;rfl);rw[g];exact j
def Fh(w:ω):Prop:=∃ev,w.cell? ⟨6,0,ν⟩=σ ev/\(ev=.nilIface\/∃te pe,ev=.iface te pe)
theorem Fh.aU(b:Fh v)(f:Below x v r)(e:6<x):Fh r:=by obtain⟨a,c,d⟩:=b;exact⟨a,(f.cell (p:=⟨6,0,ν⟩) e).trans c,d⟩
theorem GB(b:Γ)(a:ω)(Q:b.size<=300)(P:0<b.size)(R:dV b[0]=true)(B:Fh a)(U:6<a.heap.size):Calls prog 100 #[θ b] a λN k=>
 N=τ (.tuple #[IQ (yD b).1 0,ι κ (KV (yD b))])/\Below a.heap.size a k:=by
 have D:=iq b dV 0 (aB _);have T:1<=aZ b dV 0:=by rw[jP b dV 0 P R];exact gT b dV 1
 obtain⟨d,i⟩:=nm (aZ b dV 0);obtain⟨e,j⟩:=nm (b.extract 0 d);rw[<- i]at D T;have Kt:e.size=d:=by rw[j,dJ];omega
 have L:∀M∈e.data.toList,dV M=true:=by rw[j,i];exact YE b
 have ab:∀a,(Instr.slice 9 (θ b) ν (σ (ι κ d)) ν).run prog a=.ok (θ e) a:=λa=>by rw[j];exact Al a 9 b underlying9 d D
 have t:=IL b (a.alloc (vF 0 0 ⟨#[]⟩ 0)) Q;rw[<- i]at t;have r:=t;have H:yD b=if 19<d\/9223372036854775807<oK e.data.toList then(.bad,0)else(.num (oK e.data.toList),d):=by rw[j,i];rfl
 have p:=ak H;have o:Below a.heap.size a (a.alloc (vF 0 0 ⟨#[]⟩ 0)):=(aj _ _).alloc (ae _) _;have I:=B.aU o U;have z:=o;clear t H i j B o;by_cases A:19<d;{have K:=aX.2 A;go_in;go_wp2_with(go_at_call 141;refine r.mono ?_;rintro F k ⟨rfl,rfl⟩);(try simp only[Exit.inBlock,Exit.then]);refine aE (by simp[results,results100,go_sem];rfl) rfl ?_;refine⟨?_,(aj _ _).alloc (ae _) _⟩;rw[p.J,aN (.inl A)];rfl};have K:¬(19:Int)<d:=(by omega);have g:=QB L (by rw[qH];omega) (by rw[qH];omega);by_cases s:9223372036854775807<oK e.data.toList;{rw[aN s]at g;obtain⟨O,E,C⟩:=I;have y:=Tryz.strconv_Atoi_range e (by omega) g O _ E C;have n:=ak (show yD b=(.bad,0)from by rw[p.J,aN (.inr s)]);clear g E C;go_in;go_wp2_with(go_at_call 141;refine r.mono ?_;rintro F k ⟨rfl,rfl⟩);refine y.mono ?_;rintro V l ⟨aa,rfl,-,-,f⟩;have c:l.heap[a.heap.size]?=σ (vF 0 0 ⟨#[]⟩ 0):=(f.block a.heap.size (by simp)).trans (az a _);obtain⟨u,v,w,x⟩:=kJ c;have X:=cF c 0;have Y:=cF c 1;have Z:=cF c 2;have z3:=cF c 3;have m:=z.trans (f.mono (by simp));clear f c;go_wp2;(try simp only[Exit.inBlock,Exit.then]);refine aE (by simp[results,results100,go_sem,u,v,w,x];rfl) rfl ?_;refine⟨?_,qI m (ae _) _ _ _ _⟩;rw[n.J];rfl};rw[aH s]at g;have y:=Tryz.strconv_Atoi_ok e (by omega) _ g (a.alloc (vF 0 0 ⟨#[]⟩ 0));have n:=ak (show yD b=(.num (oK e.data.toList),d)from by rw[p.J,aH (by omega)]);clear g;go_in;go_wp2_with(go_at_call 141;refine r.mono ?_;rintro F k ⟨rfl,rfl⟩);refine y.mono ?_;rintro V l ⟨rfl,G⟩;have f:Below (a.alloc (vF 0 0 ⟨#[]⟩ 0)).heap.size (a.alloc (vF 0 0 ⟨#[]⟩ 0)) l:=(by rcases G with rfl|⟨ac,rfl⟩;{exact aj _ _};exact Lib.bytesWorld_below _ _ _);have c:l.heap[a.heap.size]?=σ (vF 0 0 ⟨#[]⟩ 0):=(f.block a.heap.size (by simp)).trans (az a _);obtain⟨u,v,w,x⟩:=kJ c;have X:=cF c 0;have Y:=cF c 1;have Z:=cF c 2;have z3:=cF c 3;have m:=z.trans (f.mono (by simp));clear f c G;go_wp2;(try simp only[Exit.inBlock,Exit.then]);refine aE (by simp[results,results100,go_sem,u,v,w,x];rfl) rfl ?_;refine⟨?_,qI m (ae _) _ _ _ _⟩;rw[n.J];rfl
def uX(s:Γ):Bool:=decide (s.size<=12)&&s.data.toList.all gM
theorem Up(a:Γ)(b:Nat)(d:b<a.size)(c:gM a[b]=false):uX a=false:=by have:a.data.toList.all gM=false:=List.all_eq_false.2 ⟨a[b],aq (Qy a b d),by simp[c]⟩;simp[uX,this]
theorem agi(a:(t.toNat:Int)<32\/126<(t.toNat:Int)\/(t.toNat:Int)=39):gM t=false:=by rw[lz,ne_eq,zT];omega
theorem yE(a:Γ)(g:ω) :
 Calls prog 145 #[θ a] g λj l=>j=τ (.bool (uX a))/\g=l:=by
 by_cases f:a.size<=12
 .have i:(a.size:Int)<=12:=by omega
  go_in;go_wp2;go_loop [9] (λc=>∃b:Nat,b<=a.size/\c=ι κ b/\Hid ((a.data.toList.take b).all gM=true)) (λc=>a.size - (intOf c).toNat);case atStart=>exact⟨0,aB _,rfl,ak (by simp)⟩
  case round=>
   obtain⟨b,o,rfl,d⟩:=hrel;by_cases e:b<a.size
   .have m:(b:Int)<(a.size:Int):=(by omega);go_wp2;all_goals first
     | (have k:((32:Int)<=(a[b].toNat:Int)/\(a[b].toNat:Int)<=126)/\((a[b].toNat:Int)==39)=false:=by assumption
        go_round
        case rel=>
         refine⟨b+1,by omega,by go_num,ak ?_⟩;rw[jU (by rw[qH];exact e),List.all_append,d.J];have n:=aY.1 k.2;have:gM a[b]=true:=(zT a[b]).mpr (by omega);simp only[List.all_cons,List.all_nil,Bool.and_true,Bool.true_and];exact this
        case measure=>simp[intOf];omega)
     | (go_ret
        exact⟨bI Ending.returned (bI Value.bool (Up a b e (agi (by(try simp only[beq_iff_eq]at *);omega))).symm),rfl⟩)
   go_wp2;go_ret;refine⟨bI Ending.returned (bI Value.bool ?_),rfl⟩;have:=d.J;rw[aQ (by rw[qH];omega)]at this;simp[uX,f,this]
 have i:(12:Int)<(a.size:Int):=(by omega);go_in;go_wp2;go_ret;refine⟨bI Ending.returned (bI Value.bool ?_),rfl⟩;simp[uX,f]
def Fi(c:UInt8):Bool:=c != 39
theorem aoG:∀(c:Δ UInt8),((39:UInt8)∈c->Lib.index c [39]=((c.takeWhile Fi).length:Nat))/\((39:UInt8)∉c->Lib.index c [39]=-1)
 |[]=>⟨λb=>by simp at b,λ_=>rfl⟩
 |d::r=>by
   obtain⟨f,g⟩:=aoG r;by_cases e:d=39
   . subst e
     refine⟨λ_=>?_,λb=>absurd (by simp) b⟩;rw[Lib.index,aN (by simp[List.isPrefixOf])];simp[Fi]
   . have i:([39]:Δ UInt8).isPrefixOf (d::r)=false:=by
      simp[List.isPrefixOf];exactλa=>e a.symm
     have k:(d::r).takeWhile Fi=d::r.takeWhile Fi:=by
      rw[gS,aN (by simp[Fi,e])]
     rw[Lib.index,aH (by rw[i];decide),k];constructor
     . intro b
       have j:(39:UInt8)∈r:=by
        rcases bV.mp b with a|a
        . exact absurd a.symm e
        . exact a
       rw[f j,aH (by simp)];simp
     . intro b
       rw[g (λa=>b (eT _ a)),aN (by decide)]
theorem aiq:∀(b:Δ UInt8),((39:UInt8)∈b->(b.takeWhile Fi).all gM=true->b[(b.takeWhile gM).length]?=σ 39/\b.takeWhile gM=b.takeWhile Fi)/\(b[(b.takeWhile gM).length]?=σ 39->(39:UInt8)∈b/\(b.takeWhile Fi).all gM=true)
 |[]=>⟨λa=>by simp at a,λa=>by simp at a⟩
 |c::r=>by
   obtain⟨j,k⟩:=aiq r;by_cases d:c=39
   . subst d
     have e:gM 39=false:=by decide
     have n:((39:UInt8)::r).takeWhile gM=[]:=by rw[gS,aH (by rw[e];decide)]
     have o:((39:UInt8)::r).takeWhile Fi=[]:=by rw[gS,aH (by decide)]
     rw[n,o];exact⟨λ_ _=>⟨rfl,rfl⟩,λ_=>⟨by simp,rfl⟩⟩
   . rw[gS,gS,aN (show Fi c=true from by simp[Fi,d])]
     cases e:gM c with
     |true=>
       simp only[if_true,List.length_cons,List.getElem?_cons_succ,List.all_cons,e,Bool.true_and];constructor
       . intro a l
         have m:(39:UInt8)∈r:=by
          rcases bV.mp a with f|f
          . exact absurd f.symm d
          . exact f
         obtain⟨g,i⟩:=j m l;exact⟨g,by rw[i]⟩
       . intro a
         obtain⟨g,i⟩:=k a;exact⟨eT _ g,i⟩
     |false=>
       simp only[List.all_cons,e,Bool.false_and];refine⟨λ_ a=>absurd a (by decide),λa=>?_⟩;simp at a;exact absurd a d
def rN(T:Γ):Tk×Nat:=if h2:aZ T gM 1<T.size then(if T[aZ T gM 1].toNat=39/\aZ T gM 1 - 1<=12 then(.str (T.extract 1 (aZ T gM 1)),aZ T gM 1+1)else(.bad,0))else(.bad,0)
theorem Fw(b:Γ)(c:UInt8->Bool)(a:Nat)(e:a<=b.size):aZ b c a=a+((b.data.toList.drop a).takeWhile c).length:=by have f:=Ml b c _ a rfl e;have d:=bI List.length (si (p:=c) (l:=b.data.toList.drop a));rw[au,dB,qH]at d;omega
theorem Oa(a:Γ)(b:Nat):(a.extract b a.size).data.toList=a.data.toList.drop b:=by rw[iM,lf,iX];rw[aQ];rw[dB,qH];exact ae _
theorem alm(b:Γ)(a c:Nat):(b.extract a (a+c)).data.toList=(b.data.toList.drop a).take c:=by rw[iM,lf,iX];congr 1;omega
theorem Ob(a:w.data.toList=l.data.toList):w=l:=wO (pF.mp a)
theorem ac8(a:Γ)(A:0<a.size):rN a=(if(Lib.cut (a.extract 1 a.size).data.toList [39]).2.2&&uX ⟨(Lib.cut (a.extract 1 a.size).data.toList [39]).1.toArray⟩then(.str ⟨(Lib.cut (a.extract 1 a.size).data.toList [39]).1.toArray⟩,(Lib.cut (a.extract 1 a.size).data.toList [39]).1.length+2)else(.bad,0)):=by
 rw[Oa];obtain⟨b,g⟩:=nm (a.data.toList.drop 1);rw[<- g];have E:Λ b=a.size - 1:=by rw[g,dB,qH]
 have e:=Fw a gM 1 A;rw[<- g]at e;have m:∀i (u:1+i<a.size),b[i]?=σ a[1+i]:=λi u=>by
  rw[g,jA];exact Qy a (1+i) u
 obtain⟨x,y⟩:=aoG b;obtain⟨w,s⟩:=aiq b;have D:(b.takeWhile Fi).length<=Λ b:=(List.takeWhile_prefix Fi).length_le;have v:b.take (b.takeWhile Fi).length=b.takeWhile Fi:=(List.prefix_iff_eq_take.mp (List.takeWhile_prefix Fi)).symm;unfold rN;by_cases k:(39:UInt8)∈b;{have hcut:Lib.cut b [39]=(b.takeWhile Fi,b.drop ((b.takeWhile Fi).length+1),true):=(by unfold Lib.cut;rw[x k,aN (by omega)];simp[v]);rw[hcut];simp only[Bool.true_and];by_cases l:(b.takeWhile Fi).all gM=true;{obtain⟨t,j⟩:=w k l;have n:aZ a gM 1<a.size:=(by have:=(ah.mp t).1;omega);rw[kT n];have d:a[aZ a gM 1].toNat=39:=(by have c:=m (b.takeWhile gM).length (by omega);rw[t]at c;have z:(39:UInt8)=a[1+(b.takeWhile gM).length]:=bh c;have f:a[aZ a gM 1]=a[1+(b.takeWhile gM).length]'(by omega):=(by congr 1);rw[f,<- z];rfl);have r:uX ⟨(b.takeWhile Fi).toArray⟩=decide ((b.takeWhile Fi).length<=12):=(by unfold uX;show(decide ((b.takeWhile Fi).length<=12)&&(b.takeWhile Fi).all gM)=_;rw[l,Bool.and_true]);rw[r];by_cases p:(b.takeWhile Fi).length<=12;{rw[aN ⟨d,by rw[e,j];omega⟩,aN (by simpa using p)];have B:a.extract 1 (aZ a gM 1)=⟨(b.takeWhile Fi).toArray⟩:=(by apply Ob;rw[e,alm,<- g,j,v]);rw[B,e,j];congr 1;omega};rw[aH (λC=>p (by have:=C.2;rw[e,j]at this;omega)),aH (by simpa using p)]};have r:uX ⟨(b.takeWhile Fi).toArray⟩=false:=(by unfold uX;show(decide _&&(b.takeWhile Fi).all gM)=_;rw[lz.mpr l,Bool.and_false]);rw[r,aH (show¬(false=true)from by decide)];split;{rename_i n;rw[aH];rintro⟨d,-⟩;have c:=m (b.takeWhile gM).length (by omega);have f:a[aZ a gM 1]=a[1+(b.takeWhile gM).length]'(by omega):=(by congr 1);rw[f]at d;have o:a[1+(b.takeWhile gM).length]'(by omega)=39:=ju.mp d;rw[o]at c;exact l (s c).2};rfl};have hcut:Lib.cut b [39]=(b,[],false):=(by unfold Lib.cut;rw[y k,aH (by decide)]);rw[hcut,aH (by simp)];split;{rename_i n;rw[aH];rintro⟨d,-⟩;have c:=m (b.takeWhile gM).length (by omega);have f:a[aZ a gM 1]=a[1+(b.takeWhile gM).length]'(by omega):=(by congr 1);rw[f]at d;have o:a[1+(b.takeWhile gM).length]'(by omega)=39:=ju.mp d;rw[o]at c;exact k (s c).1};rfl
