import Derived.Test.YtcoaphfimellcaaGreatDoorRows
import Derived.Test.YtcoaphfimellcaaGreatDoorQBJ
import Derived.Test.YtcoaphfimellcaaGreatDoorQAH
import Derived.MakeChecks
set_option maxHeartbeats 0
set_option maxRecDepth 100000
namespace Go.Proofs.YtcoaphfimellcaaGreatDoor
open Go.RowKit
open _root_.Go.Proofs.Tryz
open Option renaming some→σ,none→ν
open Go.IntKind renaming i64→κ
open Go renaming World→ω,Value→υ
variable{w:ω}{p n:TypeId}{m:List υ}{x:Nat}{v:Program}
theorem Du{b:Program}{g:ω}:∀{k:List (String×DataW Unit)} {l:List MemPlace},DataW.LaidVars b g k l->∀{n:String} {d:DataW Unit},(n,d)∈k->
 ∃e f c i j,b.globalNamed n=σ e/\(b.globals[e]?).map (·.type)=σ f/\g.var? b n=σ c/\DataW.trod (λ_=>()) b g 0 (λ_=>true) false i f c.toList=σ (d,j)
 |[],_,_,n,d,a=>by simp at a
 | (n',d')::r,l,h,n,d,a=>by
   obtain⟨e,f,c,i,j,q,o,p,s,t,u,-⟩:=h;rw[bF]at a;rcases a with m|a
   . cases m
     exact⟨e,f,c,i,j,o,p,s,t⟩
   . exact Du u a
theorem Kh{d:Nat}{e:List (List UInt8)}{C:List MemPlace}
 (z:v.underlying p=σ (.array d n)) (t:v.underlying n=σ .string) (r:v.cellsOf n=1) (s:v.cellsOf p=d)
 (b:DataW.trod (λ_=>()) v w 0 (λ_=>true) false x p m=σ (.agg (e.map λa=>.lit (.string a)),C)):m=e.map λa=>Value.string ⟨a.toArray⟩:=by
 cases x with
 |zero=>simp[DataW.trod]at b
 |succ x=>
   simp only[DataW.trod,z,r,s,Nat.mul_one]at b;split at b
   . rename_i E
     obtain⟨g,i,A⟩:=dF.1 b;have j:g.map (·.1)=e.map λa=>(DataW.lit (.string a):DataW Unit):=by
      have:=bn Prod.fst A;simpa using this
     have F:g.length=d:=by simpa using Lib.mapM_length i
     have G:e.length=d:=by
      have:=bn List.length j;simp at this;omega
     apply cB;intro c;by_cases y:c<d
     . obtain⟨D,l,u⟩:=Lib.mapM_at i c c (by simp[y])
       obtain⟨a,o,rfl,_⟩:=uT t u;have k:m[c]?=σ (.string a):=by
        have:=bn (·[0]?) o;simpa[List.getElem?_take,List.getElem?_drop]using this
       have f:(g.map (·.1))[c]?=σ (DataW.lit (.string a.data.toList):DataW Unit):=by simp[l]
       rw[j]at f;simp only[List.getElem?_map,Option.map_eq_some_iff,DataW.lit.injEq,Lit.string.injEq]at f;obtain⟨H,B,rfl⟩:=f;simp[k,B]
     . rw[aZ (by omega),aZ (by simp;omega)]
   . cases b
theorem EF{d:List (String×DataW Unit)}{n:String}{g:Nat}{zs:List (List UInt8)}(m:laidMet prog d w)(t:(n,(.agg (zs.map λa=>.lit (.string a)):DataW Unit))∈d)
 (c:prog.globalNamed n=σ g) (v:(prog.globals[g]?).map (·.type)=σ p) (u:prog.underlying p=σ (.array x 9)) (o:prog.cellsOf p=x) (b:Nat) (a:List UInt8) (r:zs[b]?=σ a):w.cell? ⟨g,b,ν⟩=σ (.string ⟨a.toArray⟩):=by obtain⟨C,s,-⟩:=m;obtain⟨A,D,y,z,B,e,f,i,j⟩:=Du s t;obtain rfl:=bf (c.symm.trans e);obtain rfl:=bf (v.symm.trans f);have k:=Kh u underlying9 (by kernel_rfl) o j;have l:=World.var?_cell c i b;rw[l,<- Array.getElem?_toList,k,aV,r];rfl
theorem Qm{b:List (String×DataW Unit)}{n:String}{g:Nat}{a:TypeId}{k:IntKind}{zs:List Int}(i:laidMet prog b w)(s:(n,(Lib.tabData k zs:DataW Unit))∈b)
 (o:prog.globalNamed n=σ g) (u:(prog.globals[g]?).map (·.type)=σ p) (t:prog.underlying p=σ (.array x a)) (m:prog.underlying a=σ (.int k)) (j:prog.cellsOf a=1) (l:prog.cellsOf p=x):Lib.TabIs prog w n k zs:=by obtain⟨B,r,-⟩:=i;obtain⟨z,C,v,y,A,c,d,e,f⟩:=Du r s;obtain rfl:=bf (o.symm.trans c);obtain rfl:=bf (u.symm.trans d);unfold Lib.TabIs;rw[e,<- Lib.cells_of_tab t m j l f]
theorem YJ{c:Array (String×TypeId)}{f:DataW Unit×List MemPlace}(b:v.underlying p=σ (.interface c))(a:DataW.trod (λ_=>()) v w 0 (λ_=>true) false x p m=σ f):m=[.nilIface]\/∃d e,m=[.iface d e]:=by
 cases x with
 |zero=>simp[DataW.trod]at a
 |succ g=>
   unfold DataW.trod at a;rw[b]at a;split at a<;>simp_all
theorem Ud(b:laidMetH prog Rows.refusedRow.laid w)(C:w.ShapedOpen prog):Laid w/\(1<w.heap.size/\∀c,c<=2->w.cell? ⟨1,c,ν⟩=σ (.string (Dd c)))/\uL w/\Cp w/\NL w:=by rw[MakeChecks.laidMetH_plain _ _ _ (by kernel_rfl)]at b;have t:Ku w:=cell_of_shapedOpen_int (g:=7) (t:=3) (zero:=#[.int κ 0]) C (by decide +kernel) (by kernel_rfl) rfl (by kernel_rfl) (by kernel_rfl) underlying3;have k:=EF (zs:=[[105,110,116],[115,116,114],[98,111,111,108]]) (n:= "quarry/quarry.kindNames") (g:=1) b (by simp[Rows.refusedRow,Rows.laid_quarry_quarry_kindNames]) (by kernel_rfl) (by kernel_rfl) underlying227 (by kernel_rfl);have D:=EF (zs:=(cC.take 27).map λi=>i.data.toList) (n:= "quarry/quarryref.taken") (g:=0) b (by simp[Rows.refusedRow,Rows.laid_quarry_quarryref_taken,cC,bs]) (by kernel_rfl) (by kernel_rfl) underlying158 (by kernel_rfl);have B:=EF (zs:=wN.map λi=>i.data.toList) (n:= "quarry/quarry.spellings") (g:=2) b (by simp[Rows.refusedRow,Rows.laid_quarry_quarry_spellings,wN,cC,fm,bs]) (by kernel_rfl) (by kernel_rfl) underlying242 (by kernel_rfl);have A:=Qm (zs:=opsL.map λr:Nat=>(r:Int)) (k:=κ) (n:= "quarry/quarry.operators") (g:=8) b (by simp[Rows.refusedRow,Rows.laid_quarry_quarry_operators,opsL,Lib.tabData]) (by kernel_rfl) (by kernel_rfl) underlying356 (by kernel_rfl) (by kernel_rfl) (by kernel_rfl);have E:=Qm (zs:=Lib.pow10Tab) (k:=.u64) (n:= "internal/strconv.uint64pow10") (g:=9) b (by rw[show(Lib.tabData .u64 Lib.pow10Tab:DataW Unit)=Rows.laid_internal_strconv_uint64pow10 from by kernel_rfl];simp[Rows.refusedRow]) (by kernel_rfl) (by kernel_rfl) underlying399 (by kernel_rfl) (by kernel_rfl) (by kernel_rfl);have s:12<=w.heap.size:=(by obtain⟨G,l,-⟩:=b;obtain⟨y,H,v,x,F,e,o,a,p⟩:=Du l (n:= "math/bits.deBruijn64tab") (d:=Rows.laid_math_bits_deBruijn64tab) (by simp[Rows.refusedRow]);obtain rfl:=bf ((show prog.globalNamed "math/bits.deBruijn64tab"=σ 11 by kernel_rfl).symm.trans e);unfold World.var? at a;rw[e]at a;simp only[Option.bind_some]at a;rcases lR 11 w.heap.size with n|n;{omega};rw[dR n]at a;simp at a);have z:DM w:=(by obtain⟨G,l,-⟩:=b;obtain⟨y,H,v,x,F,e,o,a,p⟩:=Du l (n:= "strconv.ErrRange") (d:=Rows.laid_strconv_ErrRange) (by simp[Rows.refusedRow]);obtain rfl:=bf ((show prog.globalNamed "strconv.ErrRange"=σ 6 by kernel_rfl).symm.trans e);obtain rfl:=bf ((show(prog.globals[6]?).map (·.type)=σ 223 by kernel_rfl).symm.trans o);have f:=World.var?_cell e a 0;rw[<- Array.getElem?_toList]at f;rcases YJ underlying223 p with j|⟨K,L,j⟩;{rw[j]at f;exact⟨_,f,.inl rfl⟩};rw[j]at f;exact⟨_,f,.inr ⟨_,_,rfl⟩⟩);refine⟨?_,⟨by omega,?_⟩,E,⟨?_,z,t,s⟩,?_⟩;{intro g m d;have:=D g m.data.toList (by rw[aV,d];rfl);simpa using this};{intro c I;have a:c=0\/c=1\/c=2:=(by omega);rcases a with rfl|rfl|rfl;{exact k 0 _ rfl};{exact k 1 _ rfl};exact k 2 _ rfl};{intro g m d;have:=B g m.data.toList (by rw[aV,d];rfl);simpa using this};intro g r d;have u:=(aj.mp d).1;have:=A.cell (show prog.globalNamed "quarry/quarry.operators"=σ 8 by kernel_rfl) g (by simpa using u);rw[this];simp[List.getD,d]
