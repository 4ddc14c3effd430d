import Derived.Test.YteniahoehoncjaaGreatDoorQAQ
import Derived.Lib.SlMapFilter
set_option maxHeartbeats 99999999
set_option maxRecDepth 100000
namespace Go.Proofs.YteniahoehoncjaaGreatDoor
open Go.RowKit
section
open Go.Maps Go.WideMaps
section
variable {B C:Type}
def zb (x:Lit×B):List (Lit×B)->List (Lit×B)
 |[]=>[x]
 |y::r=>if x.1.before y.1 then x::y::r else y::zb x r
def eA (T:List (Lit×B))(k:Lit):Option B:=(T.find? λp=>p.1.sameKey k).map (·.2)
def oB (T:List (Lit×B))(k:Lit):List (Lit×B):=T.filter λp=>!p.1.sameKey k
def oK (T:List (Lit×B))(k:Lit)(b:B):List (Lit×B):=zb (k,b) (oB T k)
def eZ (f:B->C)(T:List (Lit×B)):List (Lit×C):=T.map λp=>(p.1,f p.2)
theorem L8 (f:B->C)(k:Lit)(b:B):∀T,zb (k,f b) (eZ f T)=eZ f (zb (k,b) T)
 |[]=>rfl
 |y::r=>by
   have ih:=L8 f k b r;unfold eZ at ih ⊢;simp only [List.map_cons,zb];split
   . simp
   . simp [ih]
theorem tC (f:B->C)(T:List (Lit×B))(k:Lit):oB (eZ f T) k=eZ f (oB T k):=by
 unfold oB eZ;rw [qu];rfl
theorem wK (f:B->C)(T:List (Lit×B))(k:Lit)(b:B):oK (eZ f T) k (f b)=eZ f (oK T k b):=by
 unfold oK;rw [tC,L8]
theorem fY (f:B->C)(T:List (Lit×B))(k:Lit):eA (eZ f T) k=(eA T k).map f:=by
 unfold eA eZ;rw [List.find?_map]
 cases h:List.find? ((λp:Lit×C=>p.1.sameKey k) ∘ λp=>(p.1,f p.2)) T<;>(rw [show ((λp:Lit×C=>p.1.sameKey k) ∘ λp:Lit×B=>(p.1,f p.2))=(λp:Lit×B=>p.1.sameKey k) from rfl] at h;rw [h];rfl)
theorem Al {x y:Lit×B}:∀{T:List (Lit×B)},y∈zb x T↔y=x\/y∈T
 |[]=>by simp [zb]
 |z::r=>by
   unfold zb;split
   . simp
   . rw [bY,Al];simp only [List.mem_cons];constructor
     . rintro (h|h|h)
       . exact .inr (.inl h)
       . exact .inl h
       . exact .inr (.inr h)
     . rintro (h|h|h)
       . exact .inr (.inl h)
       . exact .inl h
       . exact .inr (.inr h)
theorem mJ {y:Lit×B}{T:List (Lit×B)}{k:Lit}(h:y∈oB T k):y∈T:=(gp.mp h).1
theorem wL {y:Lit×B}{T:List (Lit×B)}{k:Lit}{b:B}(h:y∈oK T k b):y=(k,b)\/y∈oB T k:=Al.mp h
theorem kA {T:List (Lit×B)}{k:Lit}{b:B}(h:eA T k=some b):(k,b)∈T:=by
 unfold eA at h;obtain ⟨p,hp,rfl⟩:=dZ.mp h;have h1:=List.find?_some hp;have h2:=nB hp;have h3:=fV h1;rw [<- h3];exact h2
theorem yw {R:Lit×B->Lit×B->Prop}(hs:∀a b,R a b->R b a){x:Lit×B}:∀{T:List (Lit×B)},T.Pairwise R->(∀y∈T,R x y)->(zb x T).Pairwise R
 |[],_,_=>by simp [zb]
 |y::r,h,hx=>by
   unfold zb;split
   . exact dk.mpr ⟨hx,h⟩
   . obtain ⟨h1,h2⟩:=dk.mp h
     refine dk.mpr ⟨λz hz=>?_,yw hs h2 (λz hz=>hx z (by simp [hz]))⟩;rcases Al.mp hz with rfl|hz
     . exact hs _ _ (hx y (by simp))
     . exact h1 z hz
theorem Hg {R:Lit×B->Lit×B->Prop}(hs:∀a b,R a b->R b a){T:List (Lit×B)}{k:Lit}{b:B}(h:T.Pairwise R)(hx:∀y∈oB T k,R (k,b) y):(oK T k b).Pairwise R:=yw hs (h.filter _) hx
theorem L9 (x:Lit×B):∀T:List (Lit×B),(zb x T).length=T.length+1
 |[]=>rfl
 |y::r=>by
   unfold zb;split
   . simp
   . simp [L9 x r]
end
def IL (T:List (Lit×Value)):DataW Value:=.map (eZ .held T)
def Am (v:Value):Option (DataW Value×List MemPlace):=some (.held v,[])
theorem Wb {H:Type}(x:Lit×DataW H):∀T,DataW.insert x T=zb x T
 |[]=>rfl
 |y::r=>by simp only [DataW.insert,zb,Wb x r]
theorem ZY (T:List (Lit×Value))(k:Lit)(v:Value):(IL T).put k (.held v)=IL (oK T k v):=by
 unfold IL;rw [<- wK];show DataW.map (DataW.insert _ _)=_;rw [Wb];rfl
theorem Z0 (T:List (Lit×Value))(k:Lit):(IL T).del k=IL (oB T k):=by
 unfold IL;rw [<- tC];rfl
theorem O2 (T:List (Lit×Value))(pd:Lit->DataW Value->Bool):Lib.deleteFuncD pd (IL T)=IL (T.filter λp=>!pd p.1 (.held p.2)):=by
 unfold IL Lib.deleteFuncD eZ;simp only [List.filter_map];rfl
theorem Kg (T:List (Lit×Value))(k:Lit)(z:DataW Value):(IL T).atKey k z=match eA T k with|some v=>.held v|none=>z:=by
 unfold IL DataW.atKey eA eZ;simp only [List.find?_map];rw [show ((λp:Lit×DataW Value=>p.1.sameKey k) ∘ λp:Lit×Value=>(p.1,DataW.held p.2))=(λp:Lit×Value=>p.1.sameKey k) from rfl]
 cases h:List.find? (λp:Lit×Value=>p.1.sameKey k) T<;>rfl
theorem Z1 (T:List (Lit×Value))(k:Lit):has (IL T) k=(eA T k).isSome:=by
 cases h:eA T k with
 |none=>
   refine has_false_of_atKey (λz=>?_);rw [Kg,h]
 |some v=>
   refine has_true_of_atKey (y:=.held v) (λz=>?_);rw [Kg,h]
theorem Mc (T:List (Lit×Value)):size (IL T)=T.length:=by simp [IL,size,eZ]
def j7 (w:World)(kt m:Nat)(T:List (Lit×Value)):Prop:=w.ownsMap Tryz.prog kt Am m T.length (IL T)
section
variable {w w':World} {kt m n:Nat} {T:List (Lit×Value)}
theorem j7.jt (h:w.ownsMap Tryz.prog kt Am m n (IL T)):j7 w kt m T:=by
 obtain ⟨es,clock,h1,h2,h3,h4⟩:=h;refine ⟨es,clock,h1,h2,?_,h4⟩;have e:=aU size h4;rw [Mc] at e;rw [e];simp [size,length_sorted]
theorem j7.kept (h:j7 w kt m T)(hb:w'.heap[m]?=w.heap[m]?):j7 w' kt m T:=by
 obtain ⟨es,clock,h1,h2⟩:=h;exact ⟨es,clock,hb.trans h1,h2⟩
theorem j7.lt (h:j7 w kt m T):m<w.heap.size:=World.ownsMap.lt h
theorem j7.made (w:World)(kt:Nat):j7 (w.alloc (.map #[] 0)) kt w.heap.size []:=World.ownsMap_made w Tryz.prog kt Am
variable (K:Keyed Tryz.prog kt)
include K
theorem j7.apart (h:j7 w kt m T):T.Pairwise (λp q=>p.1≠q.1):=by
 obtain ⟨es,he,hp⟩:=World.ownsMap.tidy h K;unfold IL eZ at he;simp only [DataW.map.injEq] at he;rw [<- he] at hp;exact (sA.mp hp).imp id
variable {t et:TypeId} (ht:Tryz.prog.underlying t=some (.map kt et)) {key:Value} {kl:Lit} (hk:keyOf Tryz.prog kt key=some kl)
include ht hk
theorem j7.look (h:j7 w kt m T){z:Value}(hz:(zeroValue et).run Tryz.prog w=.ok z w):(Instr.lookup t (.map (some m)) key false).run Tryz.prog w=.ok ((eA T kl).getD z) w:=by
 obtain ⟨v,ps,h1,h2⟩:=World.ownsMap.lookup h K ht hz (zd:=.held z) (zp:=[]) rfl hk;rw [h1];rw [Kg] at h2;unfold Am at h2
 cases hl:eA T kl with
 |none=>rw [hl] at h2;simp at h2;rw [h2.1];rfl
 |some u=>rw [hl] at h2;simp at h2;rw [h2.1];rfl
theorem j7.ahN (h:j7 w kt m T){z:Value}(hz:(zeroValue et).run Tryz.prog w=.ok z w):(Instr.lookup t (.map (some m)) key true).run Tryz.prog w=.ok (.tuple #[(eA T kl).getD z,.bool (eA T kl).isSome]) w:=by
 obtain ⟨v,ps,h1,h2⟩:=World.ownsMap.look_ok h K ht hz (zd:=.held z) (zp:=[]) rfl hk;rw [h1,Z1];rw [Kg] at h2;unfold Am at h2
 cases hl:eA T kl with
 |none=>rw [hl] at h2;simp at h2;rw [h2.1];rfl
 |some u=>rw [hl] at h2;simp at h2;rw [h2.1];rfl
theorem j7.put (h:j7 w kt m T)(hn:T.length<1000)(v:Value):∃w',(Instr.mapUpdate t (.map (some m)) key v).run Tryz.prog w=.ok () w'/\j7 w' kt m (oK T kl v)/\w.grownBy w' (some m):=by
 obtain ⟨w',h1,h2,h3⟩:=World.ownsMap.update h K ht (by unfold maxLen;omega) hk (val:=v) (d:=.held v) (ps:=[]) rfl;rw [ZY] at h2;exact ⟨w',h1,.jt h2,h3⟩
theorem j7.del (h:j7 w kt m T)(ty:TypeId):∃w',(Builtin.delete_ #[t,kt] ty #[.map (some m),key]).run Tryz.prog w=.ok (.tuple #[]) w'/\j7 w' kt m (oB T kl)/\w.grownBy w' (some m):=by
 obtain ⟨w',h1,h2,h3⟩:=World.ownsMap.drop h K ht hk ty;rw [Z0] at h2;exact ⟨w',h1,.jt h2,h3.grown⟩
end
theorem j7.len {w:World}{kt m:Nat}{T:List (Lit×Value)}(h:j7 w kt m T){t et:TypeId}(ht:Tryz.prog.underlying t=some (.map kt et))(ty:TypeId):(Builtin.len_ #[t] ty #[.map (some m)]).run Tryz.prog w=.ok (.int .i64 T.length) w:=by
 rw [World.ownsMap.len h ht ty,Mc]
theorem Tryz.Kh:Keyed Tryz.prog 9:=Keyed.of_law (string_law Tryz.underlying9)
theorem Tryz.Wc:(189:TypeId)<Tryz.prog.types.size:=jm (by kernel_rfl)
theorem Tryz.adY:(match Tryz.prog.underlying 189 with|some (.array _ _)|some (.struct _)=>true|_=>false)=true:=by kernel_rfl
theorem Tryz.abV:KeyLaw Tryz.prog 189:=deep_law_laid S.Tryz.laidOut (m:=2) (by omega) Tryz.Wc (by kernel_rfl) Tryz.adY
theorem Tryz.qG:Keyed Tryz.prog 189:=Keyed.of_law Tryz.abV
theorem Tryz.Rc:Tryz.prog.cellsOf 189=2:=by kernel_rfl
theorem Tryz.IQ:Tryz.prog.keyType 189=true:=by kernel_rfl
def tk (s:ByteArray):Lit:=.string s.data.toList
def gk (u s:ByteArray):Lit:=.string (keyBytes [.string u.data.toList,.string s.data.toList])
theorem O4 {s:ByteArray}(hs:s.size<=maxLen):keyOf Tryz.prog 9 (.string s)=some (tk s):=by
 simp [keyOf,mapKey,Tryz.underlying9,hs,tk]
theorem SL {P:Program}{m:Nat}(hm:P.types.size=m+1)
 (hg:P.underlying 189=some (TypeDesc.struct #[{ name:= "user",type:=9,offset:=0,embedded:=false,tag:= "",pkgPath:= "quarry/quarry",byteOffset:=0 },{ name:= "table",type:=9,offset:=1,embedded:=false,tag:= "",pkgPath:= "quarry/quarry",byteOffset:=16 }]))
 (h9:P.underlying 9=some .string) (hkt:P.keyType 189=true) (cg:P.cellsOf 189=2) (c9:P.cellsOf 9=1)
 {u s:ByteArray} (hu:u.size<=maxLen) (hs:s.size<=maxLen):keyOf P 189 (.agg #[.string u,.string s])=some (gk u s):=by
 simp [keyOf,hg,hkt,Value.formed,cg,Value.cells,Program.keyLits,hm,h9,c9,hu,hs,gk]
theorem E6 {u s:ByteArray}(hu:u.size<=maxLen)(hs:s.size<=maxLen):keyOf Tryz.prog 189 (.agg #[.string u,.string s])=some (gk u s):=by
 obtain ⟨m,hm⟩:=pz.2 (cW (aN _) Tryz.Wc);exact SL hm Tryz.underlying189 Tryz.underlying9 Tryz.IQ Tryz.Rc S.Tryz.Oo hu hs
theorem adZ {s s':ByteArray}(h:tk s=tk s'):s=s':=by
 unfold tk at h;simp only [Lit.string.injEq] at h;exact sR (iK.mp h)
theorem Ki {u s u' s':ByteArray}(hu:u.size<=maxLen)(hs:s.size<=maxLen)(hu':u'.size<=maxLen)(VC:s'.size<=maxLen)(h:gk u s=gk u' s'):u=u'/\s=s':=by
 have e:=Tryz.abV.inj (E6 hu hs) (h ▸ E6 hu' VC);simp only [Value.agg.injEq] at e;have e':=aU Array.toList e;simp at e';exact e'
theorem O5 (w:World):(zeroValue 135).run Tryz.prog w=.ok (.pointer none) w:=by kernel_rfl
theorem Kj (w:World):(zeroValue 139).run Tryz.prog w=.ok (.agg #[.slice none 0 0,.nilFunc]) w:=by kernel_rfl
end
end Go.Proofs.YteniahoehoncjaaGreatDoor
