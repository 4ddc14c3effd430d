import Derived.Test.YtcoaphfimellcaaGreatDoorFAO
import Derived.Lib.SlMapFilter
set_option maxHeartbeats 0
set_option maxRecDepth 100000
namespace Go.Proofs.YtcoaphfimellcaaGreatDoor
open Go.RowKit
open _root_.Go.Proofs.Tryz
open Option renaming some→σ
open Go renaming World→ω,Value→υ
variable{p x:ByteArray}{v:υ}
section
open Go.Maps Go.WideMaps
section
variable {B C:Type}
def CW(x:Lit×B):List (Lit×B)->List (Lit×B)
 |[]=>[x]
 |y::r=>if x.1.before y.1 then x::y::r else y::CW x r
def fU(T:List (Lit×B))(k:Lit):Option B:=(T.find? λp=>p.1.sameKey k).map (·.2)
def qA(T:List (Lit×B))(k:Lit):List (Lit×B):=T.filter λp=>!p.1.sameKey k
def qU(T:List (Lit×B))(k:Lit)(b:B):List (Lit×B):=CW (k,b) (qA T k)
def gQ(f:B->C)(T:List (Lit×B)):List (Lit×C):=T.map λp=>(p.1,f p.2)
theorem RG(a:B->C)(c:Lit)(b:B):∀T,CW (c,a b) (gQ a T)=gQ a (CW (c,b) T)
 |[]=>rfl
 |y::r=>by
   have d:=RG a c b r;unfold gQ at d ⊢;simp only[List.map_cons,CW];split
   . simp
   . simp[d]
theorem xj(a:B->C)(T:List (Lit×B))(b:Lit):qA (gQ a T) b=gQ a (qA T b):=by unfold qA gQ;rw[nW];rfl
theorem Ax(a:B->C)(T:List (Lit×B))(c:Lit)(b:B):qU (gQ a T) c (a b)=gQ a (qU T c b):=by unfold qU;rw[xj,RG]
theorem iM(c:B->C)(T:List (Lit×B))(b:Lit):fU (gQ c T) b=(fU T b).map c:=by unfold fU gQ;rw[List.find?_map];cases h:List.find? ((λa:Lit×C=>a.1.sameKey b) ∘ λa=>(a.1,c a.2)) T<;>(rw[show((λa:Lit×C=>a.1.sameKey b) ∘ λa:Lit×B=>(a.1,c a.2))=(λa:Lit×B=>a.1.sameKey b)from rfl]at h;rw[h];rfl)
theorem Ee{c b:Lit×B}:∀{T:List (Lit×B)},b∈CW c T↔b=c\/b∈T
 |[]=>by simp[CW]
 |z::r=>by
   unfold CW;split
   . simp
   . rw[bq,Ee];simp only[List.mem_cons];constructor
     . rintro(a|a|a)
       . exact .inr (.inl a)
       . exact .inl a
       . exact .inr (.inr a)
     . rintro(a|a|a)
       . exact .inr (.inl a)
       . exact .inl a
       . exact .inr (.inr a)
theorem oL{a:Lit×B}{T:List (Lit×B)}{c:Lit}(b:a∈qA T c):a∈T:=(eW.mp b).1
theorem Ay{b:Lit×B}{T:List (Lit×B)}{a:Lit}{c:B}(d:b∈qU T a c):b=(a,c)\/b∈qA T a:=Ee.mp d
theorem nh{T:List (Lit×B)}{d:Lit}{a:B}(b:fU T d=σ a):(d,a)∈T:=by unfold fU at b;obtain⟨i,c,rfl⟩:=dU.mp b;have e:=tJ c;have f:=jV c;have g:=iL e;rw[<- g];exact f
theorem Cg{a:Lit×B->Lit×B->Prop}(g:∀e f,a e f->a f e){i:Lit×B}:∀{T:List (Lit×B)},T.Pairwise a->(∀c∈T,a i c)->(CW i T).Pairwise a
 |[],_,_=>by simp[CW]
 |c::r,h,hx=>by
   unfold CW;split
   . exact bj.mpr ⟨hx,h⟩
   . obtain⟨j,k⟩:=bj.mp h
     refine bj.mpr ⟨λd b=>?_,Cg g k (λd b=>hx d (by simp[b]))⟩;rcases Ee.mp b with rfl|b
     . exact g _ _ (hx c (by simp))
     . exact j d b
theorem LJ{a:Lit×B->Lit×B->Prop}(f:∀d b,a d b->a b d){T:List (Lit×B)}{c:Lit}{b:B}(e:T.Pairwise a)(g:∀i∈qA T c,a (c,b) i):(qU T c b).Pairwise a:=Cg f (e.filter _) g
theorem RH(a:Lit×B):∀T:List (Lit×B),(CW a T).length=T.length+1
 |[]=>rfl
 |y::r=>by
   unfold CW;split
   . simp
   . simp[RH a r]
end
def MP(T:List (Lit×υ)):DataW υ:=.map (gQ .held T)
def Ef(v:υ):Option (DataW υ×List MemPlace):=σ (.held v,[])
theorem aej{b:Type}(a:Lit×DataW b):∀T,DataW.insert a T=CW a T
 |[]=>rfl
 |y::r=>by simp only[DataW.insert,CW,aej a r]
theorem aie(T:List (Lit×υ))(a:Lit)(b:υ):(MP T).put a (.held b)=MP (qU T a b):=by unfold MP;rw[<- Ax];show DataW.map (DataW.insert _ _)=_;rw[aej];rfl
theorem aif(T:List (Lit×υ))(a:Lit):(MP T).del a=MP (qA T a):=by unfold MP;rw[<- xj];rfl
theorem Vv(T:List (Lit×υ))(b:Lit->DataW υ->Bool):Lib.deleteFuncD b (MP T)=MP (T.filter λa=>!b a.1 (.held a.2)):=by unfold MP Lib.deleteFuncD gQ;simp only[List.filter_map];rfl
theorem OT(T:List (Lit×υ))(b:Lit)(c:DataW υ):(MP T).atKey b c=match fU T b with|some d=>.held d|none=>c:=by unfold MP DataW.atKey fU gQ;simp only[List.find?_map];rw[show((λa:Lit×DataW υ=>a.1.sameKey b) ∘ λa:Lit×υ=>(a.1,DataW.held a.2))=(λa:Lit×υ=>a.1.sameKey b)from rfl];cases h:List.find? (λa:Lit×υ=>a.1.sameKey b) T<;>rfl
theorem aih(T:List (Lit×υ))(a:Lit):has (MP T) a=(fU T a).isSome:=by cases h:fU T a with|none=>refine has_false_of_atKey (λc=>?_);rw[OT,h]|some b=>refine has_true_of_atKey (y:=.held b) (λc=>?_);rw[OT,h]
theorem RI(T:List (Lit×υ)):size (MP T)=T.length:=by simp[MP,size,gQ]
def lS(w:ω)(kt m:Nat)(T:List (Lit×υ)):Prop:=w.ownsMap prog kt Ef m T.length (MP T)
section
variable {w w':ω} {kt m n:Nat} {T:List (Lit×υ)}
theorem lS.fM(e:w.ownsMap prog kt Ef m n (MP T)):lS w kt m T:=by obtain⟨d,c,f,g,i,b⟩:=e;refine⟨d,c,f,g,?_,b⟩;have a:=a7 size b;rw[RI]at a;rw[a];simp[size,length_sorted]
theorem lS.kept(c:lS w kt m T)(f:w'.heap[m]?=w.heap[m]?):lS w' kt m T:=by obtain⟨b,a,d,e⟩:=c;exact⟨b,a,f.trans d,e⟩
theorem lS.lt(a:lS w kt m T):m<w.heap.size:=World.ownsMap.lt a
theorem lS.made(w:ω)(kt:Nat):lS (w.alloc (.map #[] 0)) kt w.heap.size []:=World.ownsMap_made w prog kt Ef
variable (K:Keyed prog kt)
include K
theorem lS.apart(c:lS w kt m T):T.Pairwise (λd q=>d.1≠q.1):=by obtain⟨e,a,b⟩:=World.ownsMap.tidy c K;unfold MP gQ at a;simp only[DataW.map.injEq]at a;rw[<- a]at b;exact(ox.mp b).imp id
variable {t et:TypeId} (ht:prog.underlying t=σ (.map kt et)) {key:υ} {kl:Lit} (hk:keyOf prog kt key=σ kl)
include ht hk
theorem lS.look(b:lS w kt m T)(d:(zeroValue et).run prog w=.ok v w):(Instr.lookup t (.map (σ m)) key false).run prog w=.ok ((fU T kl).getD v) w:=by obtain⟨g,e,c,a⟩:=World.ownsMap.lookup b K ht d (zd:=.held v) (zp:=[]) rfl hk;rw[c];rw[OT]at a;unfold Ef at a;cases hl:fU T kl with|none=>rw[hl]at a;simp at a;rw[a.1];rfl|some f=>rw[hl]at a;simp at a;rw[a.1];rfl
theorem lS.aq7(b:lS w kt m T)(d:(zeroValue et).run prog w=.ok v w):(Instr.lookup t (.map (σ m)) key true).run prog w=.ok (.tuple #[(fU T kl).getD v,.bool (fU T kl).isSome]) w:=by obtain⟨g,e,c,a⟩:=World.ownsMap.look_ok b K ht d (zd:=.held v) (zp:=[]) rfl hk;rw[c,aih];rw[OT]at a;unfold Ef at a;cases hl:fU T kl with|none=>rw[hl]at a;simp at a;rw[a.1];rfl|some f=>rw[hl]at a;simp at a;rw[a.1];rfl
theorem lS.put(c:lS w kt m T)(f:T.length<1000)(a:υ):∃w',(Instr.mapUpdate t (.map (σ m)) key a).run prog w=.ok () w'/\lS w' kt m (qU T kl a)/\w.grownBy w' (σ m):=by obtain⟨w',d,b,e⟩:=World.ownsMap.update c K ht (by unfold maxLen;omega) hk (val:=a) (d:=.held a) (ps:=[]) rfl;rw[aie]at b;exact⟨w',d,.fM b,e⟩
theorem lS.del(c:lS w kt m T)(b:TypeId):∃w',(Builtin.delete_ #[t,kt] b #[.map (σ m),key]).run prog w=.ok (.tuple #[]) w'/\lS w' kt m (qA T kl)/\w.grownBy w' (σ m):=by obtain⟨w',d,a,e⟩:=World.ownsMap.drop c K ht hk b;rw[aif]at a;exact⟨w',d,.fM a,e.grown⟩
end
theorem lS.len{w:ω}{kt m:Nat}{T:List (Lit×υ)}(b:lS w kt m T){t et:TypeId}(ht:prog.underlying t=σ (.map kt et))(a:TypeId):(Builtin.len_ #[t] a #[.map (σ m)]).run prog w=.ok (.int .i64 T.length) w:=by rw[World.ownsMap.len b ht a,RI]
theorem Tryz.OU:Keyed prog 9:=Keyed.of_law (string_law underlying9)
theorem Tryz.aek:(198:TypeId)<prog.types.size:=jF (by kernel_rfl)
theorem Tryz.ana:(match prog.underlying 198 with|some (.array _ _)|some (.struct _)=>true|_=>false)=true:=by kernel_rfl
theorem Tryz.akn:KeyLaw prog 198:=deep_law_laid S.Tryz.laidOut (m:=2) (by omega) Tryz.aek (by kernel_rfl) Tryz.ana
theorem Tryz.ud:Keyed prog 198:=Keyed.of_law Tryz.akn
theorem Tryz.XM:prog.cellsOf 198=2:=by kernel_rfl
theorem Tryz.MQ:prog.keyType 198=true:=by kernel_rfl
def tk(s:ByteArray):Lit:=.string s.data.toList
def gk(u s:ByteArray):Lit:=.string (keyBytes [.string u.data.toList,.string s.data.toList])
theorem Vw(a:p.size<=maxLen):keyOf prog 9 (.string p)=σ (tk p):=by simp[keyOf,mapKey,underlying9,a,tk]
theorem aae{a:Program}{m:Nat}(g:a.types.size=m+1)
 (e:a.underlying 198=σ (TypeDesc.struct #[{ name:= "user",type:=9,offset:=0,embedded:=false,tag:= "",pkgPath:= "quarry/quarry",byteOffset:=0 },{ name:= "table",type:=9,offset:=1,embedded:=false,tag:= "",pkgPath:= "quarry/quarry",byteOffset:=16 }]))
 (d:a.underlying 9=σ .string) (f:a.keyType 198=true) (c:a.cellsOf 198=2) (b:a.cellsOf 9=1)
  (j:p.size<=maxLen) (i:x.size<=maxLen):keyOf a 198 (.agg #[.string p,.string x])=σ (gk p x):=by simp[keyOf,e,f,Value.formed,c,Value.cells,Program.keyLits,g,d,b,j,i,gk]
theorem JU(c:p.size<=maxLen)(b:x.size<=maxLen):keyOf prog 198 (.agg #[.string p,.string x])=σ (gk p x):=by obtain⟨m,a⟩:=rL.2 (dF (aI _) Tryz.aek);exact aae a underlying198 underlying9 Tryz.MQ Tryz.XM S.Tryz.Uo c b
theorem anb(a:tk p=tk x):p=x:=by unfold tk at a;simp only[Lit.string.injEq]at a;exact pN (o7.mp a)
theorem OV{b a:ByteArray}(i:p.size<=maxLen)(f:x.size<=maxLen)(j:b.size<=maxLen)(g:a.size<=maxLen)(e:gk p x=gk b a):p=b/\x=a:=by have c:=Tryz.akn.inj (JU i f) (e ▸ JU j g);simp only[Value.agg.injEq]at c;have d:=a7 Array.toList c;simp at d;exact d
theorem Vx(w:ω):(zeroValue 139).run prog w=.ok (.pointer none) w:=by kernel_rfl
theorem OW(w:ω):(zeroValue 143).run prog w=.ok (.agg #[.slice none 0 0,.nilFunc]) w:=by kernel_rfl
end
