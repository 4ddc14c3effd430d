import Derived.Test.YtcoaphfimellcaaGreatDoorQAV
import Derived.Lib.SlMapFilter
set_option maxHeartbeats 0
set_option maxRecDepth 100000
namespace Go.Proofs.YtcoaphfimellcaaGreatDoor
open Go.RowKit
open _root_.Go.Proofs.Tryz
open Option renaming some→σ,none→ν
open Go.IntKind renaming i64→κ
open Go renaming World→ω,Value→υ
variable{p x:ByteArray}{v:υ}
section
open Go.Maps Go.WideMaps
section
variable {B C:Type}
def BT(x:Lit×B):List (Lit×B)->List (Lit×B)
 |[]=>[x]
 |y::r=>if x.1.before y.1 then x::y::r else y::BT x r
def eU(T:List (Lit×B))(k:Lit):Option B:=(T.find? λp=>p.1.sameKey k).map (·.2)
def pW(T:List (Lit×B))(k:Lit):List (Lit×B):=T.filter λp=>!p.1.sameKey k
def qt(T:List (Lit×B))(k:Lit)(b:B):List (Lit×B):=BT (k,b) (pW T k)
def fS(f:B->C)(T:List (Lit×B)):List (Lit×C):=T.map λp=>(p.1,f p.2)
theorem Ps(a:B->C)(c:Lit)(b:B):∀T,BT (c,a b) (fS a T)=fS a (BT (c,b) T)
 |[]=>rfl
 |y::r=>by
   have d:=Ps a c b r;unfold fS at d ⊢;simp only[List.map_cons,BT];split
   . simp
   . simp[d]
theorem wm(a:B->C)(T:List (Lit×B))(b:Lit):pW (fS a T) b=fS a (pW T b):=by unfold pW fS;rw[nA];rfl
theorem zr(a:B->C)(T:List (Lit×B))(c:Lit)(b:B):qt (fS a T) c (a b)=fS a (qt T c b):=by unfold qt;rw[wm,Ps]
theorem gU(c:B->C)(T:List (Lit×B))(b:Lit):eU (fS c T) b=(eU T b).map c:=by unfold eU fS;rw[List.find?_map];cases h:List.find? ((λa:Lit×C=>a.1.sameKey b) ∘ λa=>(a.1,c a.2)) T<;>(rw[show((λa:Lit×C=>a.1.sameKey b) ∘ λa:Lit×B=>(a.1,c a.2))=(λa:Lit×B=>a.1.sameKey b)from rfl]at h;rw[h];rfl)
theorem Df{c b:Lit×B}:∀{T:List (Lit×B)},b∈BT c T↔b=c\/b∈T
 |[]=>by simp[BT]
 |z::r=>by
   unfold BT;split
   . simp
   . rw[bF,Df];simp only[List.mem_cons];constructor
     . rintro(a|a|a)
       . exact .inr (.inl a)
       . exact .inl a
       . exact .inr (.inr a)
     . rintro(a|a|a)
       . exact .inr (.inl a)
       . exact .inl a
       . exact .inr (.inr a)
theorem nX{a:Lit×B}{T:List (Lit×B)}{c:Lit}(b:a∈pW T c):a∈T:=(eA.mp b).1
theorem zt{b:Lit×B}{T:List (Lit×B)}{a:Lit}{c:B}(d:b∈qt T a c):b=(a,c)\/b∈pW T a:=Df.mp d
theorem mG{T:List (Lit×B)}{d:Lit}{a:B}(b:eU T d=σ a):(d,a)∈T:=by unfold eU at b;obtain⟨i,c,rfl⟩:=dF.mp b;have e:=List.find?_some c;have f:=jo c;have g:=gT e;rw[<- g];exact f
theorem Bc{a:Lit×B->Lit×B->Prop}(g:∀e f,a e f->a f e){i:Lit×B}:∀{T:List (Lit×B)},T.Pairwise a->(∀c∈T,a i c)->(BT i T).Pairwise a
 |[],_,_=>by simp[BT]
 |c::r,h,hx=>by
   unfold BT;split
   . exact bk.mpr ⟨hx,h⟩
   . obtain⟨j,k⟩:=bk.mp h
     refine bk.mpr ⟨λd b=>?_,Bc g k (λd b=>hx d (by simp[b]))⟩;rcases Df.mp b with rfl|b
     . exact g _ _ (hx c (by simp))
     . exact j d b
theorem J7{a:Lit×B->Lit×B->Prop}(f:∀d b,a d b->a b d){T:List (Lit×B)}{c:Lit}{b:B}(e:T.Pairwise a)(g:∀i∈pW T c,a (c,b) i):(qt T c b).Pairwise a:=Bc f (e.filter _) g
theorem Pt(a:Lit×B):∀T:List (Lit×B),(BT a T).length=T.length+1
 |[]=>rfl
 |y::r=>by
   unfold BT;split
   . simp
   . simp[Pt a r]
end
def Lc(T:List (Lit×υ)):DataW υ:=.map (fS .held T)
def Dg(v:υ):Option (DataW υ×List MemPlace):=σ (.held v,[])
theorem abV{b:Type}(a:Lit×DataW b):∀T,DataW.insert a T=BT a T
 |[]=>rfl
 |y::r=>by simp only[DataW.insert,BT,abV a r]
theorem afL(T:List (Lit×υ))(a:Lit)(b:υ):(Lc T).put a (.held b)=Lc (qt T a b):=by unfold Lc;rw[<- zr];show DataW.map (DataW.insert _ _)=_;rw[abV];rfl
theorem afM(T:List (Lit×υ))(a:Lit):(Lc T).del a=Lc (pW T a):=by unfold Lc;rw[<- wm];rfl
theorem Tf(T:List (Lit×υ))(b:Lit->DataW υ->Bool):Lib.deleteFuncD b (Lc T)=Lc (T.filter λa=>!b a.1 (.held a.2)):=by unfold Lc Lib.deleteFuncD fS;simp only[List.filter_map];rfl
theorem MN(T:List (Lit×υ))(b:Lit)(c:DataW υ):(Lc T).atKey b c=match eU T b with|some d=>.held d|none=>c:=by unfold Lc DataW.atKey eU fS;simp only[List.find?_map];rw[show((λa:Lit×DataW υ=>a.1.sameKey b) ∘ λa:Lit×υ=>(a.1,DataW.held a.2))=(λa:Lit×υ=>a.1.sameKey b)from rfl];cases h:List.find? (λa:Lit×υ=>a.1.sameKey b) T<;>rfl
theorem afN(T:List (Lit×υ))(a:Lit):has (Lc T) a=(eU T a).isSome:=by
 cases h:eU T a with
 |none=>
   refine has_false_of_atKey (λc=>?_);rw[MN,h]
 |some b=>
   refine has_true_of_atKey (y:=.held b) (λc=>?_);rw[MN,h]
theorem Pu(T:List (Lit×υ)):size (Lc T)=T.length:=by simp[Lc,size,fS]
def lz(w:ω)(kt m:Nat)(T:List (Lit×υ)):Prop:=w.ownsMap prog kt Dg m T.length (Lc T)
section
variable {w w':ω} {kt m n:Nat} {T:List (Lit×υ)}
theorem lz.eY(e:w.ownsMap prog kt Dg m n (Lc T)):lz w kt m T:=by obtain⟨d,c,f,g,i,b⟩:=e;refine⟨d,c,f,g,?_,b⟩;have a:=bn size b;rw[Pu]at a;rw[a];simp[size,length_sorted]
theorem lz.kept(c:lz w kt m T)(f:w'.heap[m]?=w.heap[m]?):lz w' kt m T:=by obtain⟨b,a,d,e⟩:=c;exact⟨b,a,f.trans d,e⟩
theorem lz.lt(a:lz w kt m T):m<w.heap.size:=World.ownsMap.lt a
theorem lz.made(w:ω)(kt:Nat):lz (w.alloc (.map #[] 0)) kt w.heap.size []:=World.ownsMap_made w prog kt Dg
variable (K:Keyed prog kt)
include K
theorem lz.apart(c:lz w kt m T):T.Pairwise (λd q=>d.1≠q.1):=by obtain⟨e,a,b⟩:=World.ownsMap.tidy c K;unfold Lc fS at a;simp only[DataW.map.injEq]at a;rw[<- a]at b;exact(nP.mp b).imp id
variable {t et:TypeId} (ht:prog.underlying t=σ (.map kt et)) {key:υ} {kl:Lit} (hk:keyOf prog kt key=σ kl)
include ht hk
theorem lz.look(b:lz w kt m T)(d:(zeroValue et).run prog w=.ok v w):(Instr.lookup t (.map (σ m)) key false).run prog w=.ok ((eU T kl).getD v) w:=by
 obtain⟨g,e,c,a⟩:=World.ownsMap.lookup b K ht d (zd:=.held v) (zp:=[]) rfl hk;rw[c];rw[MN]at a;unfold Dg at a
 cases hl:eU T kl with
 |none=>rw[hl]at a;simp at a;rw[a.1];rfl
 |some f=>rw[hl]at a;simp at a;rw[a.1];rfl
theorem lz.aox(b:lz w kt m T)(d:(zeroValue et).run prog w=.ok v w):(Instr.lookup t (.map (σ m)) key true).run prog w=.ok (.tuple #[(eU T kl).getD v,.bool (eU T kl).isSome]) w:=by
 obtain⟨g,e,c,a⟩:=World.ownsMap.look_ok b K ht d (zd:=.held v) (zp:=[]) rfl hk;rw[c,afN];rw[MN]at a;unfold Dg at a
 cases hl:eU T kl with
 |none=>rw[hl]at a;simp at a;rw[a.1];rfl
 |some f=>rw[hl]at a;simp at a;rw[a.1];rfl
theorem lz.put(c:lz w kt m T)(f:T.length<1000)(a:υ):∃w',(Instr.mapUpdate t (.map (σ m)) key a).run prog w=.ok () w'/\lz w' kt m (qt T kl a)/\w.grownBy w' (σ m):=by obtain⟨w',d,b,e⟩:=World.ownsMap.update c K ht (by unfold maxLen;omega) hk (val:=a) (d:=.held a) (ps:=[]) rfl;rw[afL]at b;exact⟨w',d,.eY b,e⟩
theorem lz.del(c:lz w kt m T)(b:TypeId):∃w',(Builtin.delete_ #[t,kt] b #[.map (σ m),key]).run prog w=.ok (.tuple #[]) w'/\lz w' kt m (pW T kl)/\w.grownBy w' (σ m):=by obtain⟨w',d,a,e⟩:=World.ownsMap.drop c K ht hk b;rw[afM]at a;exact⟨w',d,.eY a,e.grown⟩
end
theorem lz.len{w:ω}{kt m:Nat}{T:List (Lit×υ)}(b:lz w kt m T){t et:TypeId}(ht:prog.underlying t=σ (.map kt et))(a:TypeId):(Builtin.len_ #[t] a #[.map (σ m)]).run prog w=.ok (.int κ T.length) w:=by rw[World.ownsMap.len b ht a,Pu]
theorem Tryz.MO:Keyed prog 9:=Keyed.of_law (string_law underlying9)
theorem Tryz.abW:(198:TypeId)<prog.types.size:=jY (by kernel_rfl)
theorem Tryz.akl:(match prog.underlying 198 with|some (.array _ _)|some (.struct _)=>true|_=>false)=true:=by kernel_rfl
theorem Tryz.ahF:KeyLaw prog 198:=deep_law_laid S.Tryz.laidOut (m:=2) (by omega) Tryz.abW (by kernel_rfl) Tryz.akl
theorem Tryz.sT:Keyed prog 198:=Keyed.of_law Tryz.ahF
theorem Tryz.Vc:prog.cellsOf 198=2:=by kernel_rfl
theorem Tryz.Ld:prog.keyType 198=true:=by kernel_rfl
def tk(s:ByteArray):Lit:=.string s.data.toList
def gk(u s:ByteArray):Lit:=.string (keyBytes [.string u.data.toList,.string s.data.toList])
theorem Tg(a:p.size<=maxLen):keyOf prog 9 (.string p)=σ (tk p):=by simp[keyOf,mapKey,underlying9,a,tk]
theorem XH{a:Program}{m:Nat}(g:a.types.size=m+1)
 (e:a.underlying 198=σ (TypeDesc.struct #[{ name:= "user",type:=9,offset:=0,embedded:=false,tag:= "",pkgPath:= "quarry/quarry",byteOffset:=0 },{ name:= "table",type:=9,offset:=1,embedded:=false,tag:= "",pkgPath:= "quarry/quarry",byteOffset:=16 }]))
 (d:a.underlying 9=σ .string) (f:a.keyType 198=true) (c:a.cellsOf 198=2) (b:a.cellsOf 9=1)
  (j:p.size<=maxLen) (i:x.size<=maxLen):keyOf a 198 (.agg #[.string p,.string x])=σ (gk p x):=by simp[keyOf,e,f,Value.formed,c,Value.cells,Program.keyLits,g,d,b,j,i,gk]
theorem IA(c:p.size<=maxLen)(b:x.size<=maxLen):keyOf prog 198 (.agg #[.string p,.string x])=σ (gk p x):=by obtain⟨m,a⟩:=qP.2 (du (aK _) Tryz.abW);exact XH a underlying198 underlying9 Tryz.Ld Tryz.Vc S.Tryz.RB c b
theorem akm(a:tk p=tk x):p=x:=by unfold tk at a;simp only[Lit.string.injEq]at a;exact vx (oz.mp a)
theorem MP{b a:ByteArray}(i:p.size<=maxLen)(g:x.size<=maxLen)(j:b.size<=maxLen)(e:a.size<=maxLen)(f:gk p x=gk b a):p=b/\x=a:=by have c:=Tryz.ahF.inj (IA i g) (f ▸ IA j e);simp only[Value.agg.injEq]at c;have d:=bn Array.toList c;simp at d;exact d
theorem Ti(w:ω):(zeroValue 139).run prog w=.ok (.pointer ν) w:=by kernel_rfl
theorem MQ(w:ω):(zeroValue 143).run prog w=.ok (.agg #[.slice ν 0 0,.nilFunc]) w:=by kernel_rfl
end
