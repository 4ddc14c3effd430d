import Derived.Test.YtfeckmaleonjjaaGreatDoorFAO
import Derived.Lib.SlMapFilter
set_option maxHeartbeats 0
set_option maxRecDepth 100000
namespace Go.Proofs.YtfeckmaleonjjaaGreatDoor
open Go.RowKit
open _root_.Go.Proofs.Tryz
open Option renaming some→σ
open Go renaming World→ω,Value→υ
variable{p x:Γ}{v:υ}
section
open Go.Maps Go.WideMaps
section
variable {B C:Type}
def AA(x:Lit×B):Δ (Lit×B)->Δ (Lit×B)
 |[]=>[x]
 |y::r=>if x.1.before y.1 then x::y::r else y::AA x r
def fH(T:Δ (Lit×B))(k:Lit):Option B:=(T.find? λp=>p.1.sameKey k).map (·.2)
def o6(T:Δ (Lit×B))(k:Lit):Δ (Lit×B):=T.filter λp=>!p.1.sameKey k
def o7(T:Δ (Lit×B))(k:Lit)(b:B):Δ (Lit×B):=AA (k,b) (o6 T k)
def ik(f:B->C)(T:Δ (Lit×B)):Δ (Lit×C):=T.map λp=>(p.1,f p.2)
theorem Ri(a:B->C)(c:Lit)(b:B):∀T,AA (c,a b) (ik a T)=ik a (AA (c,b) T)
 |[]=>rfl
 |y::r=>by
   have d:=Ri a c b r;unfold ik at d ⊢;simp only[List.map_cons,AA];split
   . simp
   . simp[d]
theorem xG(a:B->C)(T:Δ (Lit×B))(b:Lit):o6 (ik a T) b=ik a (o6 T b):=by unfold o6 ik;rw[gL];rfl
theorem AB(a:B->C)(T:Δ (Lit×B))(c:Lit)(b:B):o7 (ik a T) c (a b)=ik a (o7 T c b):=by unfold o7;rw[xG,Ri]
theorem jE(c:B->C)(T:Δ (Lit×B))(b:Lit):fH (ik c T) b=(fH T b).map c:=by unfold fH ik;rw[List.find?_map];cases h:List.find? ((λa:Lit×C=>a.1.sameKey b) ∘ λa=>(a.1,c a.2)) T<;>(rw[show((λa:Lit×C=>a.1.sameKey b) ∘ λa:Lit×B=>(a.1,c a.2))=(λa:Lit×B=>a.1.sameKey b)from rfl]at h;rw[h];rfl)
theorem En{c b:Lit×B}:∀{T:Δ (Lit×B)},b∈AA c T↔b=c\/b∈T
 |[]=>by simp[AA]
 |z::r=>by
   unfold AA;split
   . simp
   . rw[bV,En];simp only[List.mem_cons];constructor
     . rintro(a|a|a)
       . exact .inr (.inl a)
       . exact .inl a
       . exact .inr (.inr a)
     . rintro(a|a|a)
       . exact .inr (.inl a)
       . exact .inl a
       . exact .inr (.inr a)
theorem o8{a:Lit×B}{T:Δ (Lit×B)}{c:Lit}(b:a∈o6 T c):a∈T:=(fU.mp b).1
theorem AE{b:Lit×B}{T:Δ (Lit×B)}{a:Lit}{c:B}(d:b∈o7 T a c):b=(a,c)\/b∈o6 T a:=En.mp d
theorem mQ{T:Δ (Lit×B)}{d:Lit}{a:B}(b:fH T d=σ a):(d,a)∈T:=by unfold fH at b;obtain⟨i,c,rfl⟩:=fJ.mp b;have e:=zw c;have f:=kq c;have g:=gj e;rw[<- g];exact f
theorem Ce{a:Lit×B->Lit×B->Prop}(g:∀e f,a e f->a f e){i:Lit×B}:∀{T:Δ (Lit×B)},T.Pairwise a->(∀c∈T,a i c)->(AA i T).Pairwise a
 |[],_,_=>by simp[AA]
 |c::r,h,hx=>by
   unfold AA;split
   . exact bE.mpr ⟨hx,h⟩
   . obtain⟨j,k⟩:=bE.mp h
     refine bE.mpr ⟨λd b=>?_,Ce g k (λd b=>hx d (by simp[b]))⟩;rcases En.mp b with rfl|b
     . exact g _ _ (hx c (by simp))
     . exact j d b
theorem Lg{a:Lit×B->Lit×B->Prop}(f:∀d b,a d b->a b d){T:Δ (Lit×B)}{c:Lit}{b:B}(e:T.Pairwise a)(g:∀i∈o6 T c,a (c,b) i):(o7 T c b).Pairwise a:=Ce f (e.filter _) g
theorem Rj(a:Lit×B):∀T:Δ (Lit×B),(AA a T).length=T.length+1
 |[]=>rfl
 |y::r=>by
   unfold AA;split
   . simp
   . simp[Rj a r]
end
def ME(T:Δ (Lit×υ)):DataW υ:=.map (ik .held T)
def Eo(v:υ):Option (DataW υ×Δ MemPlace):=σ (.held v,[])
theorem ac2{b:Type}(a:Lit×DataW b):∀T,DataW.insert a T=AA a T
 |[]=>rfl
 |y::r=>by simp only[DataW.insert,AA,ac2 a r]
theorem agL(T:Δ (Lit×υ))(a:Lit)(b:υ):(ME T).put a (.held b)=ME (o7 T a b):=by unfold ME;rw[<- AB];show DataW.map (DataW.insert _ _)=_;rw[ac2];rfl
theorem agM(T:Δ (Lit×υ))(a:Lit):(ME T).del a=ME (o6 T a):=by unfold ME;rw[<- xG];rfl
theorem UY(T:Δ (Lit×υ))(b:Lit->DataW υ->Bool):Lib.deleteFuncD b (ME T)=ME (T.filter λa=>!b a.1 (.held a.2)):=by unfold ME Lib.deleteFuncD ik;simp only[List.filter_map];rfl
theorem NZ(T:Δ (Lit×υ))(b:Lit)(c:DataW υ):(ME T).atKey b c=match fH T b with|some d=>.held d|none=>c:=by unfold ME DataW.atKey fH ik;simp only[List.find?_map];rw[show((λa:Lit×DataW υ=>a.1.sameKey b) ∘ λa:Lit×υ=>(a.1,DataW.held a.2))=(λa:Lit×υ=>a.1.sameKey b)from rfl];cases h:List.find? (λa:Lit×υ=>a.1.sameKey b) T<;>rfl
theorem agN(T:Δ (Lit×υ))(a:Lit):has (ME T) a=(fH T a).isSome:=by cases h:fH T a with|none=>refine has_false_of_atKey (λc=>?_);rw[NZ,h]|some b=>refine has_true_of_atKey (y:=.held b) (λc=>?_);rw[NZ,h]
theorem Rk(T:Δ (Lit×υ)):size (ME T)=T.length:=by simp[ME,size,ik]
def mK(w:ω)(kt m:Nat)(T:Δ (Lit×υ)):Prop:=w.ownsMap prog kt Eo m T.length (ME T)
section
variable {w w':ω} {kt m n:Nat} {T:Δ (Lit×υ)}
theorem mK.dE(e:w.ownsMap prog kt Eo m n (ME T)):mK w kt m T:=by obtain⟨d,c,f,g,i,b⟩:=e;refine⟨d,c,f,g,?_,b⟩;have a:=bI size b;rw[Rk]at a;rw[a];simp[size,length_sorted]
theorem mK.kept(c:mK w kt m T)(f:w'.heap[m]?=w.heap[m]?):mK w' kt m T:=by obtain⟨b,a,d,e⟩:=c;exact⟨b,a,f.trans d,e⟩
theorem mK.lt(a:mK w kt m T):m<w.heap.size:=World.ownsMap.lt a
theorem mK.eY(w:ω)(kt:Nat):mK (w.alloc (.map #[] 0)) kt w.heap.size []:=World.ownsMap_made w prog kt Eo
variable (K:Keyed prog kt)
include K
theorem mK.apart(c:mK w kt m T):T.Pairwise (λd q=>d.1≠q.1):=by obtain⟨e,a,b⟩:=World.ownsMap.tidy c K;unfold ME ik at a;simp only[DataW.map.injEq]at a;rw[<- a]at b;exact(jX.mp b).imp id
variable {t et:TypeId} (ht:prog.underlying t=σ (.map kt et)) {key:υ} {kl:Lit} (hk:keyOf prog kt key=σ kl)
include ht hk
theorem mK.look(b:mK w kt m T)(d:(zeroValue et).run prog w=.ok v w):(Instr.lookup t (.map (σ m)) key false).run prog w=.ok ((fH T kl).getD v) w:=by obtain⟨g,e,c,a⟩:=World.ownsMap.lookup b K ht d (zd:=.held v) (zp:=[]) rfl hk;rw[c];rw[NZ]at a;unfold Eo at a;cases hl:fH T kl with|none=>rw[hl]at a;simp at a;rw[a.1];rfl|some f=>rw[hl]at a;simp at a;rw[a.1];rfl
theorem mK.apC(b:mK w kt m T)(d:(zeroValue et).run prog w=.ok v w):(Instr.lookup t (.map (σ m)) key true).run prog w=.ok (.tuple #[(fH T kl).getD v,.bool (fH T kl).isSome]) w:=by obtain⟨g,e,c,a⟩:=World.ownsMap.look_ok b K ht d (zd:=.held v) (zp:=[]) rfl hk;rw[c,agN];rw[NZ]at a;unfold Eo at a;cases hl:fH T kl with|none=>rw[hl]at a;simp at a;rw[a.1];rfl|some f=>rw[hl]at a;simp at a;rw[a.1];rfl
theorem mK.put(c:mK w kt m T)(f:T.length<1000)(a:υ):∃w',(Instr.mapUpdate t (.map (σ m)) key a).run prog w=.ok () w'/\mK w' kt m (o7 T kl a)/\w.grownBy w' (σ m):=by obtain⟨w',d,b,e⟩:=World.ownsMap.update c K ht (by unfold maxLen;omega) hk (val:=a) (d:=.held a) (ps:=[]) rfl;rw[agL]at b;exact⟨w',d,.dE b,e⟩
theorem mK.del(c:mK w kt m T)(b:TypeId):∃w',(Builtin.delete_ #[t,kt] b #[.map (σ m),key]).run prog w=.ok (.tuple #[]) w'/\mK w' kt m (o6 T kl)/\w.grownBy w' (σ m):=by obtain⟨w',d,a,e⟩:=World.ownsMap.drop c K ht hk b;rw[agM]at a;exact⟨w',d,.dE a,e.grown⟩
end
theorem mK.len{w:ω}{kt m:Nat}{T:Δ (Lit×υ)}(b:mK w kt m T){t et:TypeId}(ht:prog.underlying t=σ (.map kt et))(a:TypeId):(Builtin.len_ #[t] a #[.map (σ m)]).run prog w=.ok (.int .i64 T.length) w:=by rw[World.ownsMap.len b ht a,Rk]
theorem Tryz.N0:Keyed prog 9:=Keyed.of_law (string_law underlying9)
theorem Tryz.ac3:(239:TypeId)<prog.types.size:=oS (by kernel_rfl)
theorem Tryz.alj:(match prog.underlying 239 with|some (.array _ _)|some (.struct _)=>true|_=>false)=true:=by kernel_rfl
theorem Tryz.aiG:KeyLaw prog 239:=deep_law_laid S.Tryz.laidOut (m:=2) (by omega) Tryz.ac3 (by kernel_rfl) Tryz.alj
theorem Tryz.uC:Keyed prog 239:=Keyed.of_law Tryz.aiG
theorem Tryz.WR:prog.cellsOf 239=2:=by kernel_rfl
theorem Tryz.MF:prog.keyType 239=true:=by kernel_rfl
def tk(s:Γ):Lit:=.string s.data.toList
def gk(u s:Γ):Lit:=.string (keyBytes [.string u.data.toList,.string s.data.toList])
theorem UZ(a:p.size<=maxLen):keyOf prog 9 (.string p)=σ (tk p):=by simp[keyOf,mapKey,underlying9,a,tk]
theorem Zf{a:Program}{m:Nat}(g:a.types.size=m+1)
 (f:a.underlying 239=σ (TypeDesc.struct #[{ name:= "user",type:=9,offset:=0,embedded:=false,tag:= "",pkgPath:= "quarry/quarry",byteOffset:=0 },{ name:= "table",type:=9,offset:=1,embedded:=false,tag:= "",pkgPath:= "quarry/quarry",byteOffset:=16 }]))
 (e:a.underlying 9=σ .string) (b:a.keyType 239=true) (d:a.cellsOf 239=2) (c:a.cellsOf 9=1)
  (j:p.size<=maxLen) (i:x.size<=maxLen):keyOf a 239 (.agg #[.string p,.string x])=σ (gk p x):=by simp[keyOf,f,b,Value.formed,d,Value.cells,Program.keyLits,g,e,c,j,i,gk]
theorem Jw(c:p.size<=maxLen)(b:x.size<=maxLen):keyOf prog 239 (.agg #[.string p,.string x])=σ (gk p x):=by obtain⟨m,a⟩:=sA.2 (bY (aB _) Tryz.ac3);exact Zf a underlying239 underlying9 Tryz.MF Tryz.WR S.Tryz.Uw c b
theorem N2(a:tk p=tk x):p=x:=by unfold tk at a;simp only[Lit.string.injEq]at a;exact wO (pF.mp a)
theorem N3{b a:Γ}(j:p.size<=maxLen)(i:x.size<=maxLen)(f:b.size<=maxLen)(e:a.size<=maxLen)(g:gk p x=gk b a):p=b/\x=a:=by have c:=Tryz.aiG.inj (Jw j i) (g ▸ Jw f e);simp only[Value.agg.injEq]at c;have d:=bI Array.toList c;simp at d;exact d
theorem U0(w:ω):(zeroValue 170).run prog w=.ok (.pointer none) w:=by kernel_rfl
theorem N4(w:ω):(zeroValue 174).run prog w=.ok (.agg #[.slice none 0 0,.nilFunc]) w:=by kernel_rfl
end
