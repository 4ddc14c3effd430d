import Derived.Test.YteniahoehoncjaaGreatDoorQBC
import Derived.Test.YteniahoehoncjaaGreatDoorQAH
set_option maxHeartbeats 99999999
set_option maxRecDepth 100000
namespace Go.Proofs.YteniahoehoncjaaGreatDoor
open Go.RowKit
theorem r7 {w:World}{lo:Nat}{fv gv:Value}{ok:List aL->Prop}{F G:List aL->dQ}{s:Bool}(hc:ef w lo fv ok F)(UT:ef w lo gv ok G)(hF:∀row,ok row->∀c,F row=.inl c->tg c)(hG:∀row,ok row->∀c,G row=.inl c->tg c)(pb:lo<=w.heap.size) :
 Calls Tryz.prog 252 #[fv,gv,.bool s] w λr w'=>∃v,r=.returned v/\ef w' lo v ok (λrow=>iU s (F row) (G row))/\Below w.heap.size w w':=by
 have HC:=hide hc;have o8:=hide UT;have HF:=hide hF;have HG:=hide hG;obtain ⟨n,iJ,rfl,-⟩:=hc;obtain ⟨n1,wH,rfl,-⟩:=UT;have h2:=sK w (.cells #[.func (.func n) #[] iJ] 137) (.cells #[.func (.func n1) #[] wH] 137);have HT:=hide (tB s ((w.alloc (.cells #[.func (.func n) #[] iJ] 137)).alloc (.cells #[.func (.func n1) #[] wH] 137)));have HE:Hid (yP (.inl (jr s))=.agg #[.bool false,.int .i64 (jr s).n,.string ⟨#[]⟩,.bool false]):=hide rfl;have HW:=hide (λw1 (h:Below _ ((w.alloc (.cells #[.func (.func n) #[] iJ] 137)).alloc (.cells #[.func (.func n1) #[] wH] 137)) w1)=>(show ef (w1.alloc (.cells #[.bool false,.int .i64 (jr s).n,.string ⟨#[]⟩,.bool false] 247)) lo (.func (.func 265) #[] #[.pointer (some ⟨w.heap.size,0,none⟩),.pointer (some ⟨w1.heap.size,0,none⟩),.pointer (some ⟨w.heap.size+1,0,none⟩)]) ok (λrow=>iU s (F row) (G row))/\Below w.heap.size w (w1.alloc (.cells #[.bool false,.int .i64 (jr s).n,.string ⟨#[]⟩,.bool false] 247)) from by
  have hA:Below w1.heap.size w1 (w1.alloc (.cells #[.bool false,.int .i64 (jr s).n,.string ⟨#[]⟩,.bool false] 247)):=(ag _ _).alloc (af _) _;have hb:=h2.1.trans (h.mono h2.1.size);have hs:=hb.size;have YC:=hb.trans (hA.mono hs);have e1:=(hA.block _ (aF (show w.heap.size<_ by simp;omega) h.size)).trans ((h.block _ (by simp;omega)).trans h2.2.2);have e2:=(hA.block _ (aF (show w.heap.size+1<_ by simp) h.size)).trans ((h.block _ (by simp)).trans h2.2.1);exact ⟨⟨_,_,rfl,Tryz.call265,λb hk bv cs rv rows h1 Bv h3 h4 h5=>aeo (ae HC) (ae o8) (ae HF) (ae HG) (jy.back YC hk) (hk.block pb e1) (hk.block (by omega) (ai w1 _)) (hk.block (by omega) e2) h1 Bv h3 h4 h5⟩,YC⟩))
 clear h2 hF hG;go_enter Tryz.func252,Tryz.ntmps252;go_wp2_with fail;refine (ae HT).mono ?_;rintro e w1 ⟨rfl,hb⟩;obtain ⟨h1,h2⟩:=ae HW w1 hb;have H1:=hide h1;have H2:=hide h2;rw [ae HE];clear hb h1 h2;go_wp2_with fail;go_ret;exact ⟨_,rfl,ae H1,ae H2⟩
def WE (o:Nat)(c:aL):dQ:=if o=14 then .inl (jr (decide (c.n=0))) else LS (tA 0 c.n)
theorem Hq {w:World}{lo:Nat}(o:Nat)(ho:o=13\/o=14):Calls Tryz.prog 240 #[.int .i64 o] w λr w'=>∃v,r=.returned v/\tf w' lo v MG (WE o)/\w'=w:=by
 have H1:Hid (tf w lo (.func (.func 248) #[] #[]) MG (λc=>.inl (jr (decide (c.n=0))))):=hide ⟨_,_,rfl,Tryz.call248,λb _ c _=>adK c b⟩;have H2:Hid (tf w lo (.func (.func 249) #[] #[]) MG (λc=>LS (tA 0 c.n))):=hide ⟨_,_,rfl,Tryz.call249,λb _ c _=>adL c b⟩;rcases ho with rfl|rfl
 all_goals
  go_enter Tryz.func240,Tryz.ntmps240;go_wp2_with fail;go_ret
  first
   |exact ⟨_,rfl,ae H1,rfl⟩
   |exact ⟨_,rfl,ae H2,rfl⟩
def Hr (o:Nat)(l r:aL):dQ:=if 5<=o then .inl (jr (yZ o (Sv l r))) else LS (oJ o l.n r.n)
theorem Hs {w:World}{lo:Nat}(o:Nat)(ho:o<=10)(pb:lo<=w.heap.size):Calls Tryz.prog 254 #[.int .i64 o] w λr w'=>∃v,r=.returned v/\uz w' lo v MH (Hr o)/\Below w.heap.size w w':=by
 have hb:Below w.heap.size w (w.alloc (.cells #[.int .i64 o] 308)):=(ag _ _).alloc (af _) _;have HB:=hide hb;by_cases h5:5<=o
 . have H1:Hid (uz (w.alloc (.cells #[.int .i64 o] 308)) lo (.func (.func 267) #[] #[.pointer (some ⟨w.heap.size,0,none⟩)]) MH (Hr o)):=hide ⟨_,_,rfl,Tryz.call267,λb hk l r _=>by unfold Hr;rw [aH h5];exact aen o h5 ho l r (hk.block pb (ai w _))⟩
   have e1:(5:Int)<=o:=by omega
   have e2:(o:Int)<=10:=by omega
   clear hb;go_enter Tryz.func254,Tryz.ntmps254;go_wp2_with fail;go_ret;exact ⟨_,rfl,ae H1,ae HB⟩
 . have H1:Hid (uz (w.alloc (.cells #[.int .i64 o] 308)) lo (.func (.func 270) #[] #[.pointer (some ⟨w.heap.size,0,none⟩)]) MH (Hr o)):=hide ⟨_,_,rfl,Tryz.call270,λb hk l r _=>by unfold Hr;rw [aA h5];exact aar o (by omega) l r (hk.block pb (ai w _))⟩
   have e1:¬(5:Int)<=o:=by omega
   clear hb;go_enter Tryz.func254,Tryz.ntmps254;go_wp2_with fail;go_ret;exact ⟨_,rfl,ae H1,ae HB⟩
def gg (cols:List cU)(row:List aL):Ex->dQ
 |.num n=>.inl (oA n)
 |.str s=>.inl ⟨false,0,s⟩
 |.bool b=>.inl (jr b)
 |.junk=>.inl (oA 0)
 |.col s _=>.inl (match J7 cols s with
   |some i=>row.getD i eW
   |none=>eW)
 |.lZ no _ x=>vw (λc=>.inl (jr (c.null != no))) (gg cols row x)
 |.not _ x=>vw (unO (WE 14)) (gg cols row x)
 |.neg _ x=>vw (unO (WE 13)) (gg cols row x)
 |.two op _ x y=>if fq op=11 then iU false (gg cols row x) (gg cols row y) else if fq op=12 then iU true (gg cols row x) (gg cols row y) else tw (Hr (fq op)) (gg cols row x) (gg cols row y)
def nz (cols:List cU)(row:List aL):Prop:=row.length=cols.length/\∀(i:Nat) (c:aL) (k:cU),row[i]?=some c->cols[i]?=some k->k.2=2->tg c
theorem uQ (b:Bool):tg (jr b):=by cases b;exact .inr (.inl rfl);exact .inr (.inr rfl)
theorem Ry {cols:List cU}{s:ByteArray}{k:cU}(h:cols.find? (λc=>kh c.1 s)=some k):∃i,J7 cols s=some i/\cols[i]?=some k:=by
 induction cols with
 |nil=>simp at h
 |cons c l ih=>
   rw [List.find?_cons] at h
   cases he:kh c.1 s with
   |true=>rw [he] at h;cases h;exact ⟨0,by simp [J7,List.findIdx?_cons,he],rfl⟩
   |false=>
     rw [he] at h;obtain ⟨i,h1,h2⟩:=ih h;refine ⟨i+1,?_,by simpa using h2⟩;unfold J7 at h1 ⊢;rw [List.findIdx?_cons,he,h1];rfl
theorem Px:∀op∈qq,fq op<=12/\(fq op<=4↔ql op=true)/\(5<=fq op/\fq op<=10↔mG op=true):=by decide
theorem FA {cols:List cU}{op:ByteArray}{a k:Nat}{x y:Ex}(h:cV cols (.two op a x y)=.inl k):∃kx ky,cV cols x=.inl kx/\cV cols y=.inl ky/\k=(if ql op then 0 else 2)/\kx=ky/\(kx=(if ql op then 0 else 2)\/mG op=true):=by
 simp only [cV] at h
 cases hx:cV cols x with
 |inr e=>rw [hx] at h;cases h
 |inl kx=>
   cases hy:cV cols y with
   |inr e=>rw [hx,hy] at h;cases h
   |inl ky=>
     rw [hx,hy] at h;simp only at h;generalize (if ql op=true then (0:Nat) else 2)=wt at h ⊢;split at h
     . cases h
     . rename_i hn
       refine ⟨kx,ky,rfl,rfl,(xm h).symm,Decidable.byContradiction (λe=>hn (.inl e)),?_⟩;by_cases h1:kx=wt
       . exact .inl h1
       . exact .inr (by
          cases hc:mG op with
          |true=>rfl
          |false=>exact absurd (.inr ⟨h1,hc⟩) hn)
theorem wQ {cols:List cU}{x:Ex}{k:Nat}:(∀{no:Bool} {a:Nat},cV cols (.lZ no a x)=.inl k->∃j,cV cols x=.inl j)/\(∀{a:Nat},cV cols (.not a x)=.inl k->cV cols x=.inl 2)/\(∀{a:Nat},cV cols (.neg a x)=.inl k->cV cols x=.inl 0/\k=0):=by
 refine ⟨λh=>?_,λh=>?_,λh=>?_⟩
 . simp only [cV] at h
   cases hx:cV cols x with
   |inr e=>rw [hx] at h;cases h
   |inl j=>exact ⟨j,rfl⟩
 . simp only [cV] at h
   cases hx:cV cols x with
   |inr e=>rw [hx] at h;cases h
   |inl j=>
     rw [hx] at h;simp only at h;split at h
     . rename_i e;rw [e]
     . cases h
 . simp only [cV] at h
   cases hx:cV cols x with
   |inr e=>rw [hx] at h;cases h
   |inl j=>
     rw [hx] at h;simp only at h;split at h
     . rename_i e;exact ⟨by rw [e],(xm h).symm⟩
     . cases h
theorem CJ {s:Bool}{l r:dQ}{c:aL}(h:iU s l r=.inl c)(hl:∀c,l=.inl c->tg c)(hr:∀c,r=.inl c->tg c):tg c:=by
 unfold iU at h
 cases l with
 |inr e=>cases h
 |inl u=>
   simp only at h;split at h
   . exact hl _ h
   . cases r with
     |inr e=>cases h
     |inl v=>
       simp only at h
       repeat (first|(split at h)|(cases h;first|exact hl _ rfl|exact hr _ rfl))
theorem tK {cols:List cU}{row:List aL}(gC:nz cols row)(e:Ex)(he:vO e)(hk:cV cols e=.inl 2){c:aL}(h:gg cols row e=.inl c):tg c:=by
 induction e generalizing c with
 |num n=>cases hk
 |str n=>cases hk
 |junk=>cases hk
 |bool b=>cases h;exact uQ b
 |col s a=>
   simp only [cV] at hk
   cases hf:cols.find? (λc=>kh c.1 s) with
   |none=>rw [hf] at hk;cases hk
   |some k=>
     rw [hf] at hk;obtain ⟨i,h1,h2⟩:=Ry hf;simp only [gg,h1] at h;have cF:i<row.length:=by rw [gC.1];exact (ak.mp h2).1
     have hg:row[i]?=some c:=by rw [ah cF];rw [<- xm h];simp [List.getD,List.getElem?_eq_getElem cF]
     exact gC.2 i c k hg h2 (xm hk)
 |lZ no a x ih=>
   simp only [gg] at h
   cases hx:gg cols row x with
   |inr e=>rw [hx] at h;cases h
   |inl v=>rw [hx] at h;cases h;exact uQ _
 |not a x ih=>
   simp only [gg] at h
   cases hx:gg cols row x with
   |inr e=>rw [hx] at h;cases h
   |inl v=>
     rw [hx] at h;simp only [vw,unO,WE] at h;split at h
     . cases h;exact ih he (wQ.2.1 hk) hx
     . simp only [if_true] at h;cases h;exact uQ _
 |neg a x ih=>exact absurd (wQ.2.2 hk).2 (by decide)
 |two op a x y Ru Rv=>
   obtain ⟨kx,ky,hx,hy,h2,YT,kH⟩:=FA hk;have nx:=Px op he.1;have hna:ql op=false:=by
    cases ha:ql op with
    |false=>rfl
    |true=>rw [ha] at h2;cases h2
   rw [hna] at nx kH;simp only [gg] at h;by_cases Gy:fq op=11
   . rw [aH Gy] at h
     have hc:mG op=false:=by cases hc:mG op with
      |false=>rfl
      |true=>have:=nx.2.2.mpr hc;omega
     have k2:kx=2:=by rcases kH with e|e;exact e;rw [hc] at e;cases e
     subst YT k2;exact CJ h (λc=>Ru he.2.1 hx) (λc=>Rv he.2.2 hy)
   . rw [aA Gy] at h
     by_cases JL:fq op=12
     . rw [aH JL] at h
       have hc:mG op=false:=by cases hc:mG op with
        |false=>rfl
        |true=>have:=nx.2.2.mpr hc;omega
       have k2:kx=2:=by rcases kH with e|e;exact e;rw [hc] at e;cases e
       subst YT k2;exact CJ h (λc=>Ru he.2.1 hx) (λc=>Rv he.2.2 hy)
     . rw [aA JL] at h
       have h5:5<=fq op:=by
        rcases Nat.lt_or_ge (fq op) 5 with hh|hh
        . have:=nx.2.1.mp (by omega);cases this
        . exact hh
       cases hx':gg cols row x with
       |inr e=>rw [hx'] at h;cases h
       |inl u=>
         cases hy':gg cols row y with
         |inr e=>rw [hx',hy'] at h;cases h
         |inl v=>
           rw [hx',hy'] at h;simp only [tw] at h;split at h
           . cases h;exact .inl rfl
           . unfold Hr at h
             rw [aH h5] at h
             cases h
             exact uQ _
def sN (cols:List cU)(e:Ex):Prop:=∀w lo cv,gq w cv cols->lo<=w.heap.size->
 Calls Tryz.prog 232 #[qL e,cv] w λr w'=>∃v,r=.returned v/\ef w' lo v (nz cols) (λrow=>gg cols row e)/\Below w.heap.size w w'
theorem zq (v:Value)(w:World):(Instr.typeAssert (.iface 342 v) 178 342 true).run Tryz.prog w=.ok (.tuple #[v,.bool true]) w:=by kernel_rfl
theorem Dq (v:Value)(w:World):(Instr.typeAssert (.iface 106 v) 178 342 true).run Tryz.prog w=.ok (.tuple #[.agg #[.int .i64 0,.bool false,.int .i64 0,.string ⟨#[]⟩],.bool false]) w:=by kernel_rfl
theorem KC (v:Value)(w:World):(Instr.typeAssert (.iface 106 v) 178 106 true).run Tryz.prog w=.ok (.tuple #[v,.bool true]) w:=by kernel_rfl
theorem yc (v:Value)(w:World):(Instr.typeAssert (.iface 331 v) 178 342 true).run Tryz.prog w=.ok (.tuple #[.agg #[.int .i64 0,.bool false,.int .i64 0,.string ⟨#[]⟩],.bool false]) w:=by kernel_rfl
theorem BQ (v:Value)(w:World):(Instr.typeAssert (.iface 331 v) 178 106 true).run Tryz.prog w=.ok (.tuple #[.agg #[.string ⟨#[]⟩,.int .i64 0],.bool false]) w:=by kernel_rfl
theorem wR (v:Value)(w:World):(Instr.typeAssert (.iface 331 v) 178 331 true).run Tryz.prog w=.ok (.tuple #[v,.bool true]) w:=by kernel_rfl
theorem AG (v:Value)(w:World):(Instr.typeAssert (.iface 329 v) 178 342 true).run Tryz.prog w=.ok (.tuple #[.agg #[.int .i64 0,.bool false,.int .i64 0,.string ⟨#[]⟩],.bool false]) w:=by kernel_rfl
theorem FB (v:Value)(w:World):(Instr.typeAssert (.iface 329 v) 178 106 true).run Tryz.prog w=.ok (.tuple #[.agg #[.string ⟨#[]⟩,.int .i64 0],.bool false]) w:=by kernel_rfl
theorem zr (v:Value)(w:World):(Instr.typeAssert (.iface 329 v) 178 331 true).run Tryz.prog w=.ok (.tuple #[.agg #[.nilIface,.bool false],.bool false]) w:=by kernel_rfl
theorem BR (v:Value)(w:World):(Instr.typeAssert (.iface 329 v) 178 329 true).run Tryz.prog w=.ok (.tuple #[v,.bool true]) w:=by kernel_rfl
theorem AH (v:Value)(w:World):(Instr.typeAssert (.iface 311 v) 178 342 true).run Tryz.prog w=.ok (.tuple #[.agg #[.int .i64 0,.bool false,.int .i64 0,.string ⟨#[]⟩],.bool false]) w:=by kernel_rfl
theorem FC (v:Value)(w:World):(Instr.typeAssert (.iface 311 v) 178 106 true).run Tryz.prog w=.ok (.tuple #[.agg #[.string ⟨#[]⟩,.int .i64 0],.bool false]) w:=by kernel_rfl
theorem zt (v:Value)(w:World):(Instr.typeAssert (.iface 311 v) 178 331 true).run Tryz.prog w=.ok (.tuple #[.agg #[.nilIface,.bool false],.bool false]) w:=by kernel_rfl
theorem BS (v:Value)(w:World):(Instr.typeAssert (.iface 311 v) 178 329 true).run Tryz.prog w=.ok (.tuple #[.agg #[.int .i64 0,.int .i64 0,.nilIface],.bool false]) w:=by kernel_rfl
theorem BT (v:Value)(w:World):(Instr.typeAssert (.iface 311 v) 178 311 true).run Tryz.prog w=.ok (.tuple #[v,.bool true]) w:=by kernel_rfl
theorem AJ {cols:List cU}{w:World}{lo:Nat}{cv:Value}(k:Nat)(n:Int)(s:ByteArray)(pb:lo<=w.heap.size) :
 Calls Tryz.prog 232 #[Ku k n s,cv] w λr w'=>∃v,r=.returned v/\ef w' lo v (nz cols) (λ_=>.inl ⟨false,n,s⟩)/\Below w.heap.size w w':=by
 have hb:Below w.heap.size w (w.alloc (.cells #[.int .i64 k,.bool false,.int .i64 n,.string s] 342)):=(ag _ _).alloc (af _) _;have HF:=hide (wC (w:=w.alloc (.cells #[.int .i64 k,.bool false,.int .i64 n,.string s] 342)) (lo:=lo) (fv:=.func (.func 235) #[] #[.pointer (some ⟨w.heap.size,0,none⟩)]) (ok:=nz cols) (G:=λ_=>⟨false,n,s⟩) ⟨_,_,rfl,Tryz.call235,λb hk bv cs r _ _ _=>adi bv r k ⟨false,n,s⟩ (hk.block pb (ai w _))⟩ (aw pb hb.size));have HB:=hide hb;clear hb;unfold Ku;have ta0:=zq;go_enter Tryz.func232,Tryz.ntmps232;go_wp2_with fail;refine (ae HF).mono ?_;rintro r w1 ⟨wv,rfl,hw,bL⟩;have HW:=hide hw;have eI:=hide ((ae HB).trans (bL.mono (ae HB).size));clear hw bL;go_wp2_with fail;go_ret;exact ⟨_,rfl,ae HW,ae eI⟩
theorem WG {cols:List cU}{s:ByteArray}{a i:Nat}(hl:cols.length<=100000)(hi:J7 cols s=some i):sN cols (.col s a):=by
 intro w lo cv hc pb;have cF:i<cols.length:=by unfold J7 at hi;rw [gL] at hi;exact hi.1
 have jM:yN cols s=(i:Int):=by unfold yN;rw [hi]
 have hb:Below w.heap.size w (w.alloc (.cells #[.string s,.int .i64 a] 106)):=(ag _ _).alloc (af _) _;have HI:=hide (DR cols cv s _ (hc.below hb (af _)) hl);rw [jM] at HI;have HF:=hide (λ(w1:World) (h1:Below w.heap.size w w1)=>wC (w:=w1.alloc (.cells #[.int .i64 i] 3)) (lo:=lo) (fv:=.func (.func 236) #[] #[.pointer (some ⟨w1.heap.size,0,none⟩)]) (ok:=nz cols) (G:=λrow=>row.getD i eW) ⟨_,_,rfl,Tryz.call236,λb hk bv cs r h2 h3 h4=>adj (hk.block (aw pb h1.size) (ai w1 _)) h2 (by have:=h4.1;simp [rowOf] at this;omega) h3⟩ (aw pb (aw h1.size (by simp))));have HB:=hide hb;have HE:Hid ((λrow=>gg cols row (.col s a))=λrow=>Sum.inl (row.getD i eW)):=hide (by funext row;simp only [gg,hi]);obtain ⟨va,cJ,hv⟩:=hc.slice;subst hv;clear hb hc cF jM hi;have ta0:=Dq;have ta1:=KC;show Calls Tryz.prog _ #[.iface 106 (.agg #[.string s,.int .i64 a]),_] w _;go_enter Tryz.func232,Tryz.ntmps232;go_wp2_with fail;refine (ae HI).mono ?_;rintro r w1 ⟨rfl,bL⟩;have bO:=(ae HB).trans (bL.mono (ae HB).size);have HF1:=hide (ae HF w1 bO);have eI:=hide (bO.alloc bO.size (.cells #[.int .i64 i] 3));clear bL bO HF;go_wp2_with fail;refine (ae HF1).mono ?_;rintro r w2 ⟨wv,rfl,hw,bL⟩;have HW:=hide hw;have jg:=hide ((ae eI).trans (bL.mono (ae eI).size));clear hw bL;go_wp2_with fail;go_ret;exact ⟨_,rfl,by rw [ae HE];exact ae HW,ae jg⟩
theorem WH {cols:List cU}{no:Bool}{a:Nat}{x:Ex}(ih:sN cols x):sN cols (.lZ no a x):=by
 intro w lo cv hc pb;obtain ⟨te,ve,jW⟩:=ek x;have hb:Below w.heap.size w (w.alloc (.cells #[qL x,.bool no] 331)):=(ag _ _).alloc (af _) _;have HI:=hide (ih _ lo cv (hc.below hb (af _)) (aw pb hb.size));have HV:=hide (λ(w1:World) (h1:Below (w.alloc (.cells #[qL x,.bool no] 331)).heap.size (w.alloc (.cells #[qL x,.bool no] 331)) w1)=>(show tf w1 lo (.func (.func 238) #[] #[.pointer (some ⟨w.heap.size,0,none⟩)]) MG (λc=>.inl (jr (c.null != no))) from ⟨_,_,rfl,Tryz.call238,λb hk c _=>adM c no _ (hk.block pb ((h1.block _ (by simp)).trans (ai w _)))⟩));have HB:=hide hb;obtain ⟨va,cJ,hv⟩:=hc.slice;subst hv;have ta0:=yc;have ta1:=BQ;have ta2:=wR;show Calls Tryz.prog _ #[.iface 331 (.agg #[qL x,.bool no]),_] w _;rw [jW] at HI HV HB ⊢;clear hb hc jW;go_enter Tryz.func232,Tryz.ntmps232;go_wp2_with fail;refine (ae HI).mono ?_;rintro r w1 ⟨v1,rfl,o9,bL⟩;have HA:=hide (AF o9 (ae HV w1 bL) (aw pb (aw (ae HB).size bL.size)));have eI:=hide ((ae HB).trans (bL.mono (ae HB).size));obtain ⟨n1,wH,rfl,-⟩:=o9;clear bL HI HV;go_wp2_with fail;refine (ae HA).mono ?_;rintro r w2 ⟨v2,rfl,Pj,bO⟩;have HW:=hide Pj;have jg:=hide ((ae eI).trans (bO.mono (ae eI).size));clear Pj bO;go_wp2_with fail;go_ret;exact ⟨_,rfl,ae HW,ae jg⟩
theorem MI {cols:List cU}{o a:Nat}{x:Ex}(ho:o=13\/o=14)(ih:sN cols x){w:World}{lo:Nat}{cv:Value}(hc:gq w cv cols)(pb:lo<=w.heap.size):Calls Tryz.prog 232 #[.iface 329 (.agg #[.int .i64 o,.int .i64 a,qL x]),cv] w λr w'=>∃v,r=.returned v/\ef w' lo v (nz cols) (λrow=>vw (unO (WE o)) (gg cols row x))/\Below w.heap.size w w':=by
 obtain ⟨te,ve,jW⟩:=ek x;obtain ⟨W,hW⟩:∃W,W=w.alloc (.cells #[.int .i64 o,.int .i64 a,qL x] 329):=⟨_,rfl⟩;have hb:Below w.heap.size w W:=by rw [hW];exact (ag _ _).alloc (af _) _
 have hN:W.heap[w.heap.size]?=some (.cells #[.int .i64 o,.int .i64 a,qL x] 329 (0,0)):=by rw [hW];exact ai w _
 have hD:=aJ (ag W.heap.size W);have HI:=hide (ih W.drew lo cv (hc.below (hb.trans (hD.mono hb.size)) (af _)) (aw pb hb.size));obtain ⟨n0,n1,n2⟩:=kG hN;have HN:=hide (λw1 (h:Below W.heap.size W w1)=>(kG ((h.block _ (az hN)).trans hN)).1);have HS:=hide (λw1=>Hq (w:=w1) (lo:=lo) o ho);have HB:=hide hb;have HW:=hide hW;have HD:=hide hD;have hs:=hb.size;obtain ⟨va,cJ,hv⟩:=hc.slice;subst hv;have ta0:=AG;have ta1:=FB;have ta2:=zr;have ta3:=BR;rw [jW] at HI HW n2 ⊢;clear hb hc jW hN hW hD ho;go_enter Tryz.func232,Tryz.ntmps232;go_wp2_with fail;rw [<- ae HW];go_region_with (first
  | (go_at_call 232;refine (ae HI).mono ?_;rintro r w1 ⟨v1,rfl,o9,bL⟩;have bO:=(ae HD).trans bL;have US:=ae HN w1 bO;have eI:=hide bO;have xX:=hide o9;obtain ⟨k1,wH,rfl,-⟩:=o9;clear bL bO)
  | (go_at_call 240;refine (ae HS _).mono ?_;rintro r w2 ⟨v2,rfl,Pj,rfl⟩;have vG:=hide Pj;obtain ⟨k2,iy,rfl,-⟩:=Pj)
  | (go_at_call 239;refine (Fz (ae vG) (aw pb (aw hs (ae eI).size))).mono ?_;rintro r w3 ⟨v3,rfl,Rf,eD⟩;have px:=hide ((ae eI).trans (eD.mono (ae eI).size));have HA:=hide (AF ((ae xX).keep eD) Rf (aw pb (aw hs (ae px).size)));obtain ⟨k3,aif,rfl,-⟩:=Rf;clear eD)
  | (go_at_call 237;refine (ae HA).mono ?_;rintro r w4 ⟨v4,rfl,hw4,me⟩;have K5:=hide hw4;have DP:=hide ((ae HB).trans (((ae px).trans (me.mono (ae px).size)).mono hs));obtain ⟨k4,aqF,rfl,-⟩:=hw4;clear me))
 all_goals
  (try go_wp2_with fail)
  go_ret;exact ⟨_,rfl,ae K5,ae DP⟩
theorem CK {w1:World}{r:Nat}{a b c d:Value}{t:TypeId}(h:w1.heap[r]?=some (.cells #[a,b,c,d] t (0,0))):w1.cell? ⟨r,0,none⟩=some a/\w1.cell? ⟨r,1,none⟩=some b/\w1.cell? ⟨r,2,none⟩=some c/\w1.cell? ⟨r,3,none⟩=some d:=by simp [World.cell?,h]
def FD (cols:List cU)(o:Nat)(x y:Ex)(row:List aL):dQ:=if o=11 then iU false (gg cols row x) (gg cols row y) else if o=12 then iU true (gg cols row x) (gg cols row y) else tw (Hr o) (gg cols row x) (gg cols row y)
def WI (cols:List cU)(lo o:Nat)(x y:Ex):Prop:=∀w v1 v2,lo<=w.heap.size->ef w lo v1 (nz cols) (λrow=>gg cols row x)->ef w lo v2 (nz cols) (λrow=>gg cols row y)->
 (o=11->Calls Tryz.prog 252 #[v1,v2,.bool false] w λr w'=>∃v,r=.returned v/\ef w' lo v (nz cols) (FD cols o x y)/\Below w.heap.size w w')/\
 (o=12->Calls Tryz.prog 252 #[v1,v2,.bool true] w λr w'=>∃v,r=.returned v/\ef w' lo v (nz cols) (FD cols o x y)/\Below w.heap.size w w')/\
 (o<=10->∀w1 v3,Below w.heap.size w w1->uz w1 lo v3 MH (Hr o)->Calls Tryz.prog 253 #[v1,v2,v3] w1 λr w'=>∃v,r=.returned v/\ef w' lo v (nz cols) (FD cols o x y)/\Below w1.heap.size w1 w')
theorem aas {cols:List cU}{op:ByteArray}{a k:Nat}{x y:Ex}(lo:Nat)(Bl:vO (.two op a x y))(hk:cV cols (.two op a x y)=.inl k):WI cols lo (fq op) x y:=by
 obtain ⟨kx,ky,hx,hy,h2,YT,kH⟩:=FA hk;have nx:=Px op Bl.1;have two:fq op=11\/fq op=12->kx=2:=by
  intro h;have ha:ql op=false:=by cases ha:ql op with
   |false=>rfl
   |true=>have:=nx.2.1.mpr ha;omega
  have hc:mG op=false:=by cases hc:mG op with
   |false=>rfl
   |true=>have:=nx.2.2.mpr hc;omega
  rcases kH with e|e
  . rw [ha] at e;exact e
  . rw [hc] at e;cases e
 intro w v1 v2 pb h1 h2;refine ⟨λh=>?_,λh=>?_,λh w1 v3 hb h3=>?_⟩
 . have k2:=two (.inl h)
   subst YT k2;have e:FD cols (fq op) x y=λrow=>iU false (gg cols row x) (gg cols row y):=by funext row;unfold FD;rw [aH h]
   rw [e];exact r7 h1 h2 (λrow hr c hc=>tK hr x Bl.2.1 hx hc) (λrow hr c hc=>tK hr y Bl.2.2 hy hc) pb
 . have k2:=two (.inr h)
   subst YT k2;have e:FD cols (fq op) x y=λrow=>iU true (gg cols row x) (gg cols row y):=by funext row;unfold FD;rw [aA (by omega),aH h]
   rw [e];exact r7 h1 h2 (λrow hr c hc=>tK hr x Bl.2.1 hx hc) (λrow hr c hc=>tK hr y Bl.2.2 hy hc) pb
 . have e:FD cols (fq op) x y=λrow=>tw (Hr (fq op)) (gg cols row x) (gg cols row y):=by funext row;unfold FD;rw [aA (by omega),aA (by omega)]
   rw [e];exact KB (h1.keep hb) (h2.keep hb) h3 (aw pb hb.size)
theorem MJ {cols:List cU}{o a:Nat}{x y:Ex}(ho:o<=12)(Ru:sN cols x)(Rv:sN cols y){w:World}{lo:Nat}(hL:WI cols lo o x y){cv:Value}(hc:gq w cv cols)(pb:lo<=w.heap.size):Calls Tryz.prog 241 #[.agg #[.int .i64 o,.int .i64 a,qL x,qL y],cv] w λr w'=>∃v,r=.returned v/\ef w' lo v (nz cols) (FD cols o x y)/\Below w.heap.size w w':=by
 obtain ⟨te,ve,jW⟩:=ek x;obtain ⟨te2,ve2,WJ⟩:=ek y;obtain ⟨W,hW⟩:∃W,W=w.alloc (.cells #[.int .i64 o,.int .i64 a,qL x,qL y] 311):=⟨_,rfl⟩;have hb:Below w.heap.size w W:=by rw [hW];exact (ag _ _).alloc (af _) _
 have hN:W.heap[w.heap.size]?=some (.cells #[.int .i64 o,.int .i64 a,qL x,qL y] 311 (0,0)):=by rw [hW];exact ai w _
 have hD:=aJ (ag W.heap.size W);have HI:=hide (Ru W.drew lo cv (hc.below (hb.trans (hD.mono hb.size)) (af _)) (aw pb hb.size));have HJ:=hide (λw1 (h:Below W.heap.size W w1)=>Rv w1 lo cv (hc.below (hb.trans (h.mono hb.size)) (af _)) (aw pb (aw hb.size h.size)));obtain ⟨n0,n1,n2,n3⟩:=CK hN;have HN:=hide (λw1 (h:Below W.heap.size W w1)=>CK ((h.block _ (az hN)).trans hN));have HL:=hide hL;have HDW:=hide (λw1 (Tj:o<=10) (h:lo<=w1.heap.size)=>Hs (w:=w1) (lo:=lo) o Tj h);have HB:=hide hb;have HW:=hide hW;have HD:=hide hD;have hs:=hb.size;obtain ⟨va,cJ,hv⟩:=hc.slice;subst hv;rw [jW] at HI HW n2 HN ⊢;rw [WJ] at HJ HW n3 HN ⊢;clear hb hc jW WJ hN hW hD hL;go_enter Tryz.func241,Tryz.ntmps241;go_wp2_with fail;rw [<- ae HW];have h3:o=11\/o=12\/o<=10:=by omega
 have H3:=hide h3;clear h3 ho;go_region_with (first
  | (go_at_call 232;(with_reducible refine ju (ae HI) ?_);rintro r w1 ⟨v1,rfl,o9,bL⟩;have bO:=(ae HD).trans bL;obtain ⟨m0,m1,m2,m3⟩:=ae HN w1 bO;have eI:=hide bO;have xX:=hide o9;obtain ⟨k1,wH,rfl,-⟩:=o9;clear bL bO)
  | (go_at_call 232;(with_reducible refine ju (ae HJ w1 (ae eI)) ?_);rintro r w2 ⟨v2,rfl,Pj,eD⟩;have me:=(ae eI).trans (eD.mono (ae eI).size);obtain ⟨j0,j1,j2,j3⟩:=ae HN w2 me;have jg:=hide me;have vH:=hide ((ae xX).keep eD);have vG:=hide Pj;obtain ⟨k2,iy,rfl,-⟩:=Pj;clear eD me))
 all_goals
  have DL:=hide (ae HL w2 _ _ (aw pb (aw hs (ae jg).size)) (ae vH) (ae vG));have N0:=hide ((ae HB).trans ((ae jg).mono hs));rcases ae H3 with h|h|h
  . have HC:=hide ((ae DL).1 h)
    clear DL HL HDW HI HJ H3;subst h;go_wp2_with fail;refine (ae HC).mono ?_;rintro r w3 ⟨v3,rfl,Rf,eD⟩;have Gq:=hide Rf;have px:=hide ((ae N0).trans (eD.mono (ae N0).size));clear Rf eD;go_wp2_with fail;go_ret;exact ⟨_,rfl,ae Gq,ae px⟩
  . have HC:=hide ((ae DL).2.1 h)
    clear DL HL HDW HI HJ H3;subst h;go_wp2_with fail;refine (ae HC).mono ?_;rintro r w3 ⟨v3,rfl,Rf,eD⟩;have Gq:=hide Rf;have px:=hide ((ae N0).trans (eD.mono (ae N0).size));clear Rf eD;go_wp2_with fail;go_ret;exact ⟨_,rfl,ae Gq,ae px⟩
  . have HC:=hide ((ae DL).2.2 h)
    have HX:=hide (ae HDW w2 h (aw pb (aw hs (ae jg).size)));have e11:((o:Int)==11)=false:=by rw [aj];omega
    have e12:((o:Int)==12)=false:=by rw [aj];omega
    clear DL HL HDW HI HJ H3 h;go_wp2_with fail;refine (ae HX).mono ?_;rintro r w3 ⟨v3,rfl,Rf,eD⟩;have Ps:=hide (ae HC w3 v3 eD Rf);have px:=hide ((ae N0).trans (eD.mono (ae N0).size));obtain ⟨k3,aif,rfl,-⟩:=Rf;clear eD HC HX;go_wp2_with fail;refine (ae Ps).mono ?_;rintro r w4 ⟨v4,rfl,hw4,me⟩;have K5:=hide hw4;have DP:=hide ((ae px).trans (me.mono (ae px).size));clear hw4 me;go_wp2_with fail;go_ret;exact ⟨_,rfl,ae K5,ae DP⟩
theorem WK {cols:List cU}{op:ByteArray}{a k:Nat}{x y:Ex}(Bl:vO (.two op a x y))(hk:cV cols (.two op a x y)=.inl k)(Ru:sN cols x)(Rv:sN cols y):sN cols (.two op a x y):=by
 intro w lo cv hc pb;obtain ⟨te,ve,jW⟩:=ek x;obtain ⟨te2,ve2,WJ⟩:=ek y;have hb:Below w.heap.size w (w.alloc (.cells #[.int .i64 (fq op),.int .i64 a,qL x,qL y] 311)):=(ag _ _).alloc (af _) _;have HI:=hide (MJ (a:=a) (Px op Bl.1).1 Ru Rv (aas lo Bl hk) (hc.below hb (af _)) (aw pb hb.size));have HB:=hide hb;have HE:Hid ((λrow=>gg cols row (.two op a x y))=FD cols (fq op) x y):=hide rfl;obtain ⟨va,cJ,hv⟩:=hc.slice;subst hv;have ta0:=AH;have ta1:=FC;have ta2:=zt;have ta3:=BS;have ta4:=BT;show Calls Tryz.prog _ #[.iface 311 (.agg #[.int .i64 (fq op),.int .i64 a,qL x,qL y]),_] w _;rw [ae HE];rw [jW,WJ] at HI HB ⊢;generalize fq op=o at *;clear hb hc jW WJ;go_enter Tryz.func232,Tryz.ntmps232;go_wp2_with fail;refine (ae HI).mono ?_;rintro r w1 ⟨v1,rfl,o9,bL⟩;have xX:=hide o9;have eI:=hide ((ae HB).trans (bL.mono (ae HB).size));clear o9 bL;go_wp2_with fail;go_ret;exact ⟨_,rfl,ae xX,ae eI⟩
theorem MK {cols:List cU}(hl:cols.length<=100000):∀(e:Ex),vO e->∀k,cV cols e=.inl k->sN cols e:=by
 intro e
 induction e with
 |num n=>exact λ_ k hk w lo cv hc pb=>AJ 0 n ⟨#[]⟩ pb
 |str s=>exact λ_ k hk w lo cv hc pb=>AJ 1 0 s pb
 |bool b=>exact λ_ k hk w lo cv hc pb=>AJ 2 (if b then 1 else 0) ⟨#[]⟩ pb
 |junk=>exact λ_ k hk w lo cv hc pb=>AJ 0 0 ⟨#[]⟩ pb
 |col s a=>
   intro _ k hk;simp only [cV] at hk
   cases hf:cols.find? (λc=>kh c.1 s) with
   |none=>rw [hf] at hk;cases hk
   |some q=>
     obtain ⟨i,h1,-⟩:=Ry hf;exact WG hl h1
 |neg a x ih=>exact λh k hk w lo cv hc pb=>MI (.inl rfl) (ih h 0 (wQ.2.2 hk).1) hc pb
 |not a x ih=>exact λh k hk w lo cv hc pb=>MI (.inr rfl) (ih h 2 (wQ.2.1 hk)) hc pb
 |lZ no a x ih=>
   intro h k hk;obtain ⟨j,hj⟩:=wQ.1 hk;exact WH (ih h j hj)
 |two op a x y Ru Rv=>
   intro h k hk;obtain ⟨kx,ky,hx,hy,-⟩:=FA hk;exact WK h hk (Ru h.2.1 kx hx) (Rv h.2.2 ky hy)
end Go.Proofs.YteniahoehoncjaaGreatDoor
