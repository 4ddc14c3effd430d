import Derived.Test.YteniahoehoncjaaGreatDoorQAN
import Derived.Test.YteniahoehoncjaaGreatDoorQAQ
import Derived.Maps.RangeWalk
set_option maxHeartbeats 99999999
set_option maxRecDepth 100000
namespace Go.Proofs.YteniahoehoncjaaGreatDoor
open Go.RowKit
namespace S
theorem ud.kept {w w':World}{r:Nat}{s:ByteArray}{u:Nat}{row:Option Nat}(h:ud w r s u)(hg:w.grownBy w' row)(hr:some r≠row):ud w' r s u:=h.eo (hg.block r h.lt hr)
theorem Ox (f:Nat)(h:f<18446744073709551616)(ho:f % 2=1):wrap64 (bits BinOp.xor IntKind.u64 IntKind.u64.max ((f:Int) / 2))=oF f:=by
 have e2:IntKind.u64.max=((18446744073709551615:Nat):Int):=by decide
 have e1:(f:Int) / 2=((f / 2:Nat):Int):=by omega
 rw [e1,e2,u64_xor_nat _ _ (by omega) (by omega),Lk _ (by omega)];unfold oF;rw [aH ho];unfold wrap64;omega
theorem Oy (f:Nat)(w:World)(h:f<18446744073709551616):Calls Tryz.prog 297 #[.int .u64 (f:Int)] w λe w'=>e=.returned (.int .i64 (oF f))/\w=w':=by
 have ha:bits BinOp.and IntKind.u64 (f:Int) 1=((f % 2:Nat):Int):=by
  have:=u64_and_nat f 1 h (by omega)
  rwa [rK] at this
 by_cases ho:f % 2=1
 . have hb:(bits BinOp.and IntKind.u64 (f:Int) 1==1)=true:=by rw [ha,ho];rfl
   have HO:=hide (Ox f h ho);clear ho ha;go_enter Tryz.func297,Tryz.ntmps297;go_wp2;go_ret;exact ⟨aU Ending.returned (aU (Value.int IntKind.i64) (ae HO)),rfl⟩
 . have hb:(bits BinOp.and IntKind.u64 (f:Int) 1==1)=false:=by rw [ha,show f % 2=0 by omega];rfl
   have HO:Hid ((f:Int) / 2=oF f):=hide (by unfold oF;rw [aA ho];omega);clear ho ha;go_enter Tryz.func297,Tryz.ntmps297;go_wp2;go_ret;exact ⟨aU Ending.returned (aU (Value.int IntKind.i64) (ae HO)),rfl⟩
theorem wm (r:Nat)(s:ByteArray)(u:Nat)(w:World)(h:ud w r s u)(hs:s.size<=140737488351232)(hb:u+1<=1099511627776) :
 Calls Tryz.prog 288 #[.pointer (some ⟨r,0,none⟩)] w λe w'=>e=.returned (.bool (qh s u))/\ud w' r s (u+1)/\w.grownBy w' (some r):=by
 have H:=hide h;have e1:rd s u 1=(qh s u).toNat:=by simp [rd]
 have HE:=hide e1;clear h e1;go_enter Tryz.func288,Tryz.ntmps288;go_wp2_with fail;refine (lB r s u _ w (ae H) hs (by omega) (by rw [show Int.toNat 1=1 from rfl];exact hb)).mono ?_;rintro e w1 ⟨rfl,h1,h2⟩;rw [show Int.toNat 1=1 from rfl] at *;rw [ae HE];have H1:=hide h1;have H2:=hide h2;clear h1 h2
 cases Io:qh s u
 . have HS:=hide Io
   clear Io;go_wp2;go_ret;exact ⟨by rw [ae HS];rfl,ae H1,ae H2⟩
 . have HS:=hide Io
   clear Io;go_wp2;go_ret;exact ⟨by rw [ae HS];rfl,ae H1,ae H2⟩
theorem Vs {w:World}{base g cap:Nat}{bs:List UInt8}(h:w.ownsRow base 5 1 (.slice (some ⟨g,0,none⟩) bs.length cap) bs.length (Bh (bs.map UInt8.toNat))):(convert 203 9 (.slice (some ⟨g,0,none⟩) bs.length cap)).run Tryz.prog w=.ok (.string ⟨bs.toArray⟩) w:=by
 rw [run_convert_bytes_string w 203 9 5 _ _ _ Tryz.underlying203 Tryz.underlying5 Tryz.underlying9];have hl:(loadCells ⟨g,0,none⟩ bs.length).run Tryz.prog w=.ok (((bs.map UInt8.toNat).map (λ(n:Nat)=>(n:Int))).map (Value.int .u8)).toArray w:=by
  have:=run_loadCells_list (P:=Tryz.prog) w ⟨g,0,none⟩ (Bh (bs.map UInt8.toNat)) (h.cells rfl);rw [show (Bh (bs.map UInt8.toNat)).length=bs.length by simp [Bh]] at this;rw [this];simp [Bh,Function.comp_def]
 rw [run_bytesToString w _ _ _ _ hl,fold_push];have e:(bs.map UInt8.toNat).map UInt8.ofNat=bs:=by
  rw [jH];exact (ik (λb _=>UInt8.ofNat_toNat)).trans (List.map_id _)
 rw [e];simp
theorem bR {w w':World}{row:Option Nat}(h:w.grownBy w' row){a:Addr}(ha:w.heap.size<=a.block)(v:Value):w.grownBy (w'.setCell a v) row:=
 ⟨h.os,h.tape,h.output,by simpa [World.setCell] using h.size,λk hk hr=>(aD w' a v k (by omega)).trans (h.block k hk hr)⟩
theorem Vt (A:List Nat)(m:Nat)(v:Nat):(Bh (A++List.replicate (m+1) 0)).set A.length (.int .u8 (v:Int))=Bh ((A++[v])++List.replicate m 0):=by
 simp [Bh,List.replicate_succ]
theorem R6 (n:Nat):(madeCells (Value.int .u8 0).cells (n*1)).toList=Bh (List.replicate n 0):=by
 have:∀x:Nat,[Value.int .u8 0][x % 1]?.getD default=Value.int .u8 0:=λx=>by rw [Nat.mod_one];rfl
 simp [madeCells,Bh,Value.cells,this,List.map_const']
theorem sG (r:Nat)(s:ByteArray)(u:Nat)(n wd:Int)(w:World)(h:ud w r s u)(hs:s.size<=140737488351232)(h0:0<=n)(h1:n<=1000)(h2:0<=wd)(h3:wd<=64)(hb:u<=549755813888) :
 Calls Tryz.prog 296 #[.pointer (some ⟨r,0,none⟩),.int .i64 n,.int .i64 wd] w λe w'=>e=.returned (.string ⟨(rdStr s u wd.toNat n.toNat).toArray⟩)/\ud w' r s (u+n.toNat*wd.toNat)/\w.grownBy w' (some r):=by
 obtain ⟨n,rfl⟩:=gG h0;obtain ⟨wd,rfl⟩:=gG h2;rw [aZ,aZ];obtain ⟨i0,hi,jS,jD,jv⟩:=info_parts Tryz.abq;have H:=hide h;clear h;go_enter Tryz.func296,Tryz.ntmps296;go_wp2_with (at_make;refine dw _ rfl _ _ 203 rfl w.heap.size 5 i0 (.int .u8 0) 1 Tryz.underlying203 hi jS jD _ _ _ _ n rfl rfl rfl rfl (by rw [jv];omega) (by unfold maxLen;omega) (af _) ?_;intro w1 br bE);rw [R6] at br;have pj:=(ae H).kept bE (by simp);have lX:=hide br;have HG:=hide (bE.but (some r));have HR:=hide pj;have hrn:r<w.heap.size:=(ae H).lt;clear br bE pj;go_wp2;go_loopw [13] (λc wr=>∃k:Nat,k<=n/\c=.int .i64 k/\Hid (wr.ownsRow w.heap.size 5 1 (.slice (some ⟨w.heap.size,0,none⟩) n n) n (Bh ((rdStr s u wd k).map UInt8.toNat++List.replicate (n - k) 0)))/\Hid (ud wr r s (u+k*wd))/\Hid (w.grownBy wr (some r))) (λc _=>n - (intOf c).toNat)
 case atStart=>exact ⟨0,aN _,rfl,hide (by simpa [rdStr] using ae lX),hide (by simpa using ae HR),HG⟩
 case round=>
  obtain ⟨k,hk,rfl,HO,Oz,JU⟩:=hrel;by_cases cF:k<n
  . have jI:(k:Int)<(n:Int):=by omega
    have hkw:k*wd<=1000*64:=mO (by omega) (by omega);go_wp2_with fail;refine (lB r s (u+k*wd) _ wr (ae Oz) hs (by omega) (by rw [aZ];omega)).mono ?_;rintro e w2 ⟨rfl,h4,h5⟩;rw [aZ] at *;have ke:=(ae HO).kept h5 (by simp [Value.ownBlock];omega);have agR:(Bh ((rdStr s u wd k).map UInt8.toNat++List.replicate (n - k) 0)).length=n:=by simp [Bh,kE];omega
    have hcell:w2.cell? ⟨w.heap.size,k,none⟩=some (.int .u8 0):=by
     rw [ke.cellAt k (by omega),QI (by simp [kE];omega)];congr 2;simp [List.getD,kE,show 0<n - k by omega]
    have hfz:=ke.frozenAt k;have H4:=hide h4;have H5:=hide h5;have ug:=hide ke;clear h4 h5 ke agR;have hvb:=Ik s (u+k*wd) wd;generalize hV:rd s (u+k*wd) wd=v at *;have HV:=hide hV;clear hV;go_wp2_with fail;go_roundw
    case rel=>
     refine ⟨k+1,by omega,by go_num,hide ?_,hide ?_,hide ?_⟩
     . have h:=((ae ug).stored k (.int .u8 ((v % 256:Nat):Int))).1
       have e:=Vt ((rdStr s u wd k).map UInt8.toNat) (n - (k+1)) (v % 256);rw [aW,kE,show n - (k+1)+1=n - k by omega] at e;rw [e] at h;have e2:(rdStr s u wd (k+1)).map UInt8.toNat=(rdStr s u wd k).map UInt8.toNat++[v % 256]:=by
        rw [rdStr,fB,ae HV];congr 1;simp only [List.map_cons,List.map_nil];rw [UInt8.toNat_ofNat_of_lt' (by have:=Nat.mod_lt v (show 0<256 by omega);exact this)]
       rw [e2];exact h
     . have h:=ae H4
       rw [show u+(k+1)*wd=u+k*wd+wd by rw [qO];omega];exact h.eo (aD _ _ _ _ (by show r≠w.heap.size;omega))
     . exact bR ((ae JU).trans (ae H5)) (af _) _
    case measure=>simp [intOf];omega
  . obtain rfl:k=n:=by omega
    have ho:=ae HO;rw [cM,dp,bH] at ho;have ht:=Vs (bs:=rdStr s u wd k) (by rw [kE];exact ho);rw [kE] at ht;clear ho;go_wp2;go_ret;exact ⟨rfl,ae Oz,ae JU⟩
theorem rR (r:Nat)(s:ByteArray)(u:Nat)(k:Int)(w:World)(h:ud w r s u)(hs:s.size<=140737488351232)(hb:u<=274877906944) :
 Calls Tryz.prog 293 #[.pointer (some ⟨r,0,none⟩),.int .i64 k] w λe w'=>e=.returned (.agg #[.bool (da s k u).1.null,.int .i64 (da s k u).1.n,.string (da s k u).1.s])/\ud w' r s (da s k u).2/\w.grownBy w' (some r):=by
 have H:=hide (h.alloc (.cells #[.bool false,.int .i64 0,.string ByteArray.empty] 214));have Ey:=h.lt;clear h;have UF:=je s u 8;go_enter Tryz.func293,Tryz.ntmps293;go_wp2_with fail;refine (lB r s u _ _ (ae H) hs (by omega) (by rw [show Int.toNat 8=8 from rfl];omega)).mono ?_;rintro e w1 ⟨rfl,h1,h2⟩;rw [show Int.toNat 8=8 from rfl] at *;have H1:=hide h1;have HG1:=hide ((bP w _ (some r)).trans h2);have k0:w1.cell? ⟨w.heap.size,0,none⟩=some (.bool false):=h2.cell (by rw [bK _ _ _ _ rfl];rfl) (by simp;omega);have k1:w1.cell? ⟨w.heap.size,1,none⟩=some (.int .i64 0):=h2.cell (by rw [bK _ _ _ _ rfl];rfl) (by simp;omega);have k2:w1.cell? ⟨w.heap.size,2,none⟩=some (.string ByteArray.empty):=h2.cell (by rw [bK _ _ _ _ rfl];rfl) (by simp;omega);have fN:w1.heap[w.heap.size]?=(w.alloc (.cells #[.bool false,.int .i64 0,.string ByteArray.empty] 214)).heap[w.heap.size]?:=h2.block _ (by simp) (by simp;omega);have f0:w1.frozen? ⟨w.heap.size,0,none⟩=false:=(bM (a:=⟨w.heap.size,0,none⟩) fN).trans (ib _ _ _ _ rfl);have f1:w1.frozen? ⟨w.heap.size,1,none⟩=false:=(bM (a:=⟨w.heap.size,1,none⟩) fN).trans (ib _ _ _ _ rfl);have f2:w1.frozen? ⟨w.heap.size,2,none⟩=false:=(bM (a:=⟨w.heap.size,2,none⟩) fN).trans (ib _ _ _ _ rfl);have hE:=show da s k u=(if rd s u 8=0 then (⟨true,0,ByteArray.empty⟩,u+8) else if k=1 then (⟨false,0,⟨(rdStr s (u+8) 8 (rd s u 8 - 1)).toArray⟩⟩,u+8+(rd s u 8 - 1)*8) else (⟨false,oF (rd s (u+8) (rd s u 8 - 1)),ByteArray.empty⟩,u+8+(rd s u 8 - 1))) from rfl
 generalize rd s u 8=z at *;by_cases hz:z=0
 . subst hz
   rw [aH rfl] at hE;have HE:=hide hE;clear h1 h2 hE fN;have Gs:=H1;have UG:=HG1;go_wp2;refine ay (v:=.agg #[.bool (da s k u).1.null,.int .i64 (da s k u).1.n,.string (da s k u).1.s]) ?_ rfl ⟨rfl,?_,?_⟩
   . rw [ae HE]
     simp [results,Tryz.results293,go_sem,k0,k1,k2];rfl
   . rw [ae HE]
     exact ((ae Gs).eo (by rw [aD _ _ _ _ (by show r≠w.heap.size;omega),aD _ _ _ _ (by show r≠w.heap.size;omega),aD _ _ _ _ (by show r≠w.heap.size;omega)]))
   . exact bR (bR (bR (ae UG) (af _) _) (af _) _) (af _) _
 . have hz':((z:Int)==0)=false:=by rw [aj];omega
   rw [aA hz] at hE;by_cases hk:k=1
   . subst hk
     rw [aH rfl] at hE;have HE:=hide hE;clear h1 h2 hE fN;go_wp2_with fail;refine (sG r s (u+8) _ _ w1 (ae H1) hs (by omega) (by omega) (by omega) (by omega) (by omega)).mono ?_;rintro e w2 ⟨rfl,h1,h2⟩;have bO:w2.heap[w.heap.size]?=w1.heap[w.heap.size]?:=h2.block _ (aX _ _ k0) (by simp;omega);have j0:=(bJ (a:=⟨w.heap.size,0,none⟩) bO).trans k0;have j1:=(bJ (a:=⟨w.heap.size,1,none⟩) bO).trans k1;have j2:=(bJ (a:=⟨w.heap.size,2,none⟩) bO).trans k2;have g0:=(bM (a:=⟨w.heap.size,0,none⟩) bO).trans f0;have g1:=(bM (a:=⟨w.heap.size,1,none⟩) bO).trans f1;have g2:=(bM (a:=⟨w.heap.size,2,none⟩) bO).trans f2;rw [show Int.toNat 8=8 from rfl,show ((z:Int) - 1).toNat=z - 1 by omega] at *;have Gs:=hide h1;have UG:=hide ((ae HG1).trans h2);clear h1 h2 bO k0 k1 k2 f0 f1 f2;go_wp2;refine ay (v:=.agg #[.bool (da s 1 u).1.null,.int .i64 (da s 1 u).1.n,.string (da s 1 u).1.s]) ?_ rfl ⟨rfl,?_,?_⟩
     . rw [ae HE]
       simp [results,Tryz.results293,go_sem,j0,j1,j2]
     . rw [ae HE]
       exact ((ae Gs).eo (by rw [aD _ _ _ _ (by show r≠w.heap.size;omega),aD _ _ _ _ (by show r≠w.heap.size;omega),aD _ _ _ _ (by show r≠w.heap.size;omega)]))
     . exact bR (bR (bR (ae UG) (af _) _) (af _) _) (af _) _
   . have QS:(k==1)=false:=by rw [aj];exact hk
     rw [aA hk] at hE;have HE:=hide hE;clear h1 h2 hE fN hk;go_wp2_with fail;refine (lB r s (u+8) _ w1 (ae H1) hs (by omega) (by omega)).mono ?_;rintro e w2 ⟨rfl,h1,h2⟩;have bO:w2.heap[w.heap.size]?=w1.heap[w.heap.size]?:=h2.block _ (aX _ _ k0) (by simp;omega);have j0:=(bJ (a:=⟨w.heap.size,0,none⟩) bO).trans k0;have j1:=(bJ (a:=⟨w.heap.size,1,none⟩) bO).trans k1;have j2:=(bJ (a:=⟨w.heap.size,2,none⟩) bO).trans k2;have g0:=(bM (a:=⟨w.heap.size,0,none⟩) bO).trans f0;have g1:=(bM (a:=⟨w.heap.size,1,none⟩) bO).trans f1;have g2:=(bM (a:=⟨w.heap.size,2,none⟩) bO).trans f2;rw [show ((z:Int) - 1).toNat=z - 1 by omega] at *;have Gs:=hide h1;have UG:=hide ((ae HG1).trans h2);clear h1 h2 bO k0 k1 k2 f0 f1 f2;have yh:=Ik s (u+8) (z - 1);generalize rd s (u+8) (z - 1)=f at *;go_wp2_with fail;refine (Oy f w2 (by simpa using yh)).mono ?_;rintro e w3 ⟨rfl,rfl⟩;go_wp2;refine ay (v:=.agg #[.bool (da s k u).1.null,.int .i64 (da s k u).1.n,.string (da s k u).1.s]) ?_ rfl ⟨rfl,?_,?_⟩
     . rw [ae HE]
       simp [results,Tryz.results293,go_sem,j0,j1,j2];rfl
     . rw [ae HE]
       exact ((ae Gs).eo (by rw [aD _ _ _ _ (by show r≠w.heap.size;omega),aD _ _ _ _ (by show r≠w.heap.size;omega),aD _ _ _ _ (by show r≠w.heap.size;omega)]))
     . exact bR (bR (bR (ae UG) (af _) _) (af _) _) (af _) _
end S
namespace S
theorem yI (s:ByteArray)(k:Int)(u:Nat):(da s k u).2<=u+2048:=by
 have h:=je s u 8;have h2:(2:Nat) ^ 8=256:=by decide
 unfold da;split
 . simp
 . split
   . show u+8+(rd s u 8 - 1)*8<=_;omega
   . show u+8+(rd s u 8 - 1)<=_;omega
def j6 (s:ByteArray)(k:Int)(u:Nat):Nat->List Cl×Nat
 |0=>([],u)
 |n+1=>((j6 s k u n).1++[(da s k (j6 s k u n).2).1],(da s k (j6 s k u n).2).2)
theorem rS (s:ByteArray)(k:Int)(u n:Nat):(j6 s k u n).1.length=n:=by
 induction n with
 |zero=>rfl
 |succ n ih=>simp [j6,ih]
theorem JV (s:ByteArray)(k:Int)(u n:Nat):(j6 s k u n).2<=u+n*2048:=by
 induction n with
 |zero=>simp [j6]
 |succ n ih=>have:=yI s k (j6 s k u n).2;simp only [j6];omega
def kO:Cl:=⟨false,0,ByteArray.empty⟩
theorem qX (n:Nat):(madeCells (Value.agg #[.bool false,.int .i64 0,.string ByteArray.empty]).cells (n*3)).toList=bw (List.replicate n kO):=by
 apply cX;intro j;have hz:(Value.agg #[.bool false,.int .i64 0,.string ByteArray.empty]).cells=#[.bool false,.int .i64 0,.string ByteArray.empty]:=rfl;by_cases hj:j<n*3
 . have hc:(List.replicate n kO)[j / 3]?=some kO:=by
    rw [cK,aH (by omega)]
   obtain ⟨h0,h1,h2⟩:=Ep hc;have hm:(madeCells #[.bool false,.int .i64 0,.string ByteArray.empty] (n*3)).toList[j]?=some (#[Value.bool false,.int .i64 0,.string ByteArray.empty][j % 3]!):=by
    simp [madeCells,hj]
   rw [hz,hm];have h3:j % 3=0\/j % 3=1\/j % 3=2:=by omega
   rcases h3 with h3|h3|h3
   . rw [show j / 3*3=j by omega] at h0;rw [h0,h3];rfl
   . rw [show j / 3*3+1=j by omega] at h1;rw [h1,h3];rfl
   . rw [show j / 3*3+2=j by omega] at h2;rw [h2,h3];rfl
 . rw [bp (by rw [dD,size_madeCells];omega),bp (by rw [qV,gb];omega)]
theorem pR (a b:List Cl):bw (a++b)=bw a++bw b:=by simp [bw,List.flatMap_append]
theorem R7 (A:List Cl)(m:Nat)(d c:Cl):(((bw (A++List.replicate (m+1) d)).set (A.length*3) (.bool c.null)).set (A.length*3+1) (.int .i64 c.n)).set (A.length*3+2) (.string c.s)=bw ((A++[c])++List.replicate m d):=by
 have e1:bw (A++List.replicate (m+1) d)=bw A++([.bool d.null,.int .i64 d.n,.string d.s]++bw (List.replicate m d)):=by
  rw [pR,fQ];rfl
 have e2:bw ((A++[c])++List.replicate m d)=bw A++([.bool c.null,.int .i64 c.n,.string c.s]++bw (List.replicate m d)):=by
  rw [bh,pR];rfl
 have hl:=qV A;rw [e1,e2,<- hl];rw [dO _ _ (af _),dO _ _ (by omega),dO _ _ (by omega)];congr 1;rw [cM,show (bw A).length+1 - (bw A).length=1 by omega,show (bw A).length+2 - (bw A).length=2 by omega];rfl
theorem wo {w:World}{base g n cap:Nat}{A:List Cl}{m:Nat}{d c:Cl}(h:w.ownsRow base 214 3 (.slice (some ⟨g,0,none⟩) n cap) n (bw (A++List.replicate (m+1) d))) :
 (((w.setCell ⟨g,A.length*3,none⟩ (.bool c.null)).setCell ⟨g,A.length*3+1,none⟩ (.int .i64 c.n)).setCell ⟨g,A.length*3+2,none⟩ (.string c.s)).ownsRow base 214 3 (.slice (some ⟨g,0,none⟩) n cap) n (bw ((A++[c])++List.replicate m d)):=by
 rw [<- R7 A m d c];exact (((h.stored _ _).1.stored _ _).1.stored _ _).1
theorem mR {w:World}{base g n cap i:Nat}{A:List Cl}{m:Nat}{d:Cl}(h:w.ownsRow base 214 3 (.slice (some ⟨g,0,none⟩) n cap) n (bw (A++List.replicate (m+1) d)))(hi:A.length=i) :
 (w.cell? ⟨g,i*3,none⟩=some (.bool d.null)/\w.cell? ⟨g,i*3+1,none⟩=some (.int .i64 d.n)/\w.cell? ⟨g,i*3+2,none⟩=some (.string d.s))/\w.frozen? ⟨g,i*3,none⟩=false/\w.frozen? ⟨g,i*3+1,none⟩=false/\w.frozen? ⟨g,i*3+2,none⟩=false:=by
 have hc:(A++List.replicate (m+1) d)[i]?=some d:=by rw [bm (by omega),hi,cM];rfl
 have:=xp h i d hc;rw [eP] at this;exact ⟨this,h.frozenAt _,h.frozenAt _,h.frozenAt _⟩
theorem GR (r:Nat)(s:ByteArray)(u:Nat)(k:Int)(n:Nat)(w:World)(h:ud w r s u)(hs:s.size<=140737488351232)(hn:n<=255)(hb:u<=1000000) :
 Calls Tryz.prog 309 #[.agg #[],.pointer (some ⟨r,0,none⟩),.int .i64 k,.int .i64 (n:Int)] w λe w'=>∃v,e=.returned v/\w'.ownsRow w.heap.size 214 3 v n (bw (j6 s k u n).1)/\w.grownBy w' (some r):=by
 obtain ⟨i0,hi,jS,jD,jv⟩:=info_parts Tryz.Et;have H:=hide (h.alloc (.cells #[] 286));have Ey:=h.lt;clear h;go_enter Tryz.func309,Tryz.ntmps309;go_wp2_with (at_make;refine dw _ rfl _ _ 198 rfl w.heap.size 214 i0 _ 3 Tryz.underlying198 hi jS jD _ _ _ _ n rfl rfl rfl rfl (by rw [jv];omega) (by unfold maxLen;omega) (by simp) ?_;intro w1 br bE);rw [qX] at br;have pj:=(ae H).kept bE (by simp);have lX:=hide br;have HG:=hide ((bP w (.cells #[] 286) (some r)).trans (bE.but (some r)));have HR:=hide pj;clear br bE pj;go_wp2;go_loopw [15] (λc wr=>∃i:Nat,i<=n/\c=.int .i64 i/\Hid (wr.ownsRow w.heap.size 214 3 (.slice (some ⟨w.heap.size+1,0,none⟩) n n) n (bw ((j6 s k u i).1++List.replicate (n - i) kO)))/\Hid (ud wr r s (j6 s k u i).2)/\Hid (w.grownBy wr (some r))) (λc _=>n - (intOf c).toNat)
 case atStart=>exact ⟨0,aN _,rfl,hide (by simpa [j6] using ae lX),hide (by simpa [j6] using ae HR),HG⟩
 case round=>
  obtain ⟨i,Ot,rfl,HO,Oz,JU⟩:=hrel;by_cases cF:i<n
  . have jI:(i:Int)<(n:Int):=by omega
    have OA:=JV s k u i;have QT:i*2048<=255*2048:=eF _ (by omega);go_wp2_with fail;refine (rR r s _ k wr (ae Oz) hs (by omega)).mono ?_;rintro e w2 ⟨rfl,h4,h5⟩;have ke:=(ae HO).kept h5 (by simp [Value.ownBlock];omega);have xW:=rS s k u i;rw [show n - i=(n - (i+1))+1 by omega] at ke;obtain ⟨⟨c0,c1,c2⟩,f0,f1,f2⟩:=mR ke xW;have iP:=wo (c:=(da s k (j6 s k u i).2).1) ke;rw [xW] at iP;have Ou:(j6 s k u (i+1)).1=(j6 s k u i).1++[(da s k (j6 s k u i).2).1]:=rfl;rw [<- Ou] at iP;have Zg:Hid ((j6 s k u (i+1)).2=(da s k (j6 s k u i).2).2):=hide rfl;have H4:=hide h4;have H5:=hide ((ae JU).trans h5);generalize (da s k (j6 s k u i).2).1=c at *;have pC:=hide iP;clear h4 h5 ke xW Ou iP OA QT;go_wp2_with fail;go_roundw
    case rel=>
     refine ⟨i+1,by omega,by go_num,pC,hide ?_,hide ?_⟩
     . rw [ae Zg]
       exact (ae H4).eo (by rw [aD _ _ _ _ (by show r≠w.heap.size+1;omega),aD _ _ _ _ (by show r≠w.heap.size+1;omega),aD _ _ _ _ (by show r≠w.heap.size+1;omega)])
     . exact bR (bR (bR (ae H5) (cq _) _) (cq _) _) (cq _) _
    case measure=>simp [intOf];omega
  . obtain rfl:i=n:=by omega
    have ho:=ae HO;rw [cM,dp,bH] at ho;have JW:=hide ho;clear ho;go_wp2;go_ret;exact ⟨_,rfl,ae JW,ae JU⟩
end S
namespace S
def jN (s:ByteArray)(k:Int)(n:Nat):Nat->List Cl->Nat->List Cl
 |0,l,_=>l
 |f+1,l,u=>if l.length<n then jN s k n f (l++List.replicate (min (rd s u 8+1) (n - l.length)) (da s k (u+8)).1) (da s k (u+8)).2 else l
def DM (s:ByteArray)(k:Int)(u n:Nat):List Cl:=jN s k n n [] u
theorem yn (s:ByteArray)(k:Int)(n f:Nat)(l:List Cl)(u:Nat)(h:n<=l.length):jN s k n f l u=l:=by
 cases f with
 |zero=>rfl
 |succ f=>rw [jN,aA (by omega)]
theorem C6 (s:ByteArray)(k:Int)(n:Nat):∀(f:Nat) (l:List Cl) (u:Nat),l.length<=n->n - l.length<=f->(jN s k n f l u).length=n:=by
 intro f
 induction f with
 |zero=>intro l u h1 h2;rw [jN];omega
 |succ f ih=>
   intro l u h1 h2;rw [jN];split
   . apply ih
     . rw [au,gb];omega
     . rw [au,gb];omega
   . omega
theorem JX (r:Nat)(s:ByteArray)(u:Nat)(k:Int)(n:Nat)(w:World)(h:ud w r s u)(hs:s.size<=140737488351232)(hn:n<=255)(hb:u<=1000000) :
 Calls Tryz.prog 291 #[.agg #[],.pointer (some ⟨r,0,none⟩),.int .i64 k,.int .i64 (n:Int)] w λe w'=>∃v,e=.returned v/\w'.ownsRow w.heap.size 214 3 v n (bw (DM s k u n))/\w.grownBy w' (some r):=by
 obtain ⟨i0,hi,jS,jD,jv⟩:=info_parts Tryz.Et;have H:=hide (h.alloc (.cells #[] 283));have Ey:=h.lt;clear h;go_enter Tryz.func291,Tryz.ntmps291;go_wp2_with (at_make;refine wpList_make_own _ rfl _ _ 198 rfl w.heap.size 214 i0 _ 3 Tryz.underlying198 hi jS jD _ _ _ n rfl rfl rfl (by rw [jv];omega) (by unfold maxLen;omega) (by simp) ?_;intro w1 br bE);have pj:=(ae H).kept bE (by simp);have lX:=hide br;have HG:=hide ((bP w (.cells #[] 283) (some r)).trans (bE.but (some r)));have HR:=hide pj;clear br bE pj;go_wp2;go_loopw [9] (λv wr=>∃(L f u':Nat) (l:List Cl),Hid (l.length=L)/\L<=n/\n - L<=f/\u'<=u+L*2060/\v=.slice (some ⟨w.heap.size+1,0,none⟩) L n/\Hid (jN s k n f l u'=DM s k u n)/\Hid (wr.ownsRow w.heap.size 214 3 (.slice (some ⟨w.heap.size+1,0,none⟩) L n) L (bw l))/\Hid (ud wr r s u')/\Hid (w.grownBy wr (some r))) (λv _=>n - lenOf v)
 case atStart=>exact ⟨0,n,u,[],hide rfl,aN _,by omega,by omega,rfl,hide rfl,hide (by simpa [bw] using ae lX),HR,HG⟩
 case round=>
  obtain ⟨L,f,u',l,HL,hLn,hf,hu,rfl,HD,HO,Oz,JU⟩:=hrel;by_cases cF:L<n
  . have jI:(L:Int)<(n:Int):=by omega
    have Yz:L*2060<=255*2060:=eF _ (by omega);obtain ⟨f,rfl⟩:∃f',f=f'+1:=⟨f - 1,by omega⟩;go_wp2_with fail;refine (lB r s u' _ wr (ae Oz) hs (by omega) (by rw [show Int.toNat 8=8 from rfl];omega)).mono ?_;rintro e w2 ⟨rfl,h4,h5⟩;rw [show Int.toNat 8=8 from rfl] at *;have UF:=je s u' 8;have UH:(2:Nat) ^ 8=256:=by decide
    have Gs:Hid (jN s k n (f+1) l u'=if l.length<n then jN s k n f (l++List.replicate (min (rd s u' 8+1) (n - l.length)) (da s k (u'+8)).1) (da s k (u'+8)).2 else l):=hide rfl;generalize rd s u' 8=z at *;have H4:=hide h4;have ke:=(ae HO).kept h5 (by simp [Value.ownBlock];omega);have ug:=hide ke;have HG2:=hide ((ae JU).trans h5);clear h4 h5 ke;have agS:z<256:=by omega
    clear UF UH;go_wp2_with fail;refine (rR r s (u'+8) k w2 (ae H4) hs (by omega)).mono ?_;rintro e w3 ⟨rfl,h4,h5⟩;have vQ:=yI s k (u'+8);have HUP:=hide h4;have K6:=(ae ug).kept h5 (by simp [Value.ownBlock];omega);have Ez:=hide K6;have UI:=hide ((ae HG2).trans h5);have hs3:w.heap.size+1<w3.heap.size:=(K6.lt (w.heap.size+1) rfl).2;clear h4 h5 K6;generalize hC:(da s k (u'+8)).1=c at *;generalize hU:(da s k (u'+8)).2=u2 at *;have HC:=hide hC;clear hC hU;have q0:(w3.alloc (.cells #[.bool c.null,.int .i64 c.n,.string c.s] 214)).cell? ⟨w3.heap.size,0,none⟩=some (.bool c.null):=by rw [bK _ _ _ _ rfl];rfl
    have q1:(w3.alloc (.cells #[.bool c.null,.int .i64 c.n,.string c.s] 214)).cell? ⟨w3.heap.size,1,none⟩=some (.int .i64 c.n):=by rw [bK _ _ _ _ rfl];rfl
    have q2:(w3.alloc (.cells #[.bool c.null,.int .i64 c.n,.string c.s] 214)).cell? ⟨w3.heap.size,2,none⟩=some (.string c.s):=by rw [bK _ _ _ _ rfl];rfl
    have HQ:=hide (And.intro q0 (And.intro q1 q2));have HRB:=hide ((ae HUP).alloc (.cells #[.bool c.null,.int .i64 c.n,.string c.s] 214));clear q0 q1 q2;by_cases hzl:z+1<=n - L
    . have al1:(z:Int)+1<=(n:Int) - (L:Int):=by omega
      go_wp2_with fail;go_loopw [9,31] (λv cv wr=>∃j:Nat,j<=z+1/\cv=.int .i64 j/\v=.slice (some ⟨w.heap.size+1,0,none⟩) (L+j) n/\Hid (wr.ownsRow w.heap.size 214 3 (.slice (some ⟨w.heap.size+1,0,none⟩) (L+j) n) (L+j) (bw (l++List.replicate j c)))/\Hid (wr.cell? ⟨w3.heap.size,0,none⟩=some (.bool c.null)/\wr.cell? ⟨w3.heap.size,1,none⟩=some (.int .i64 c.n)/\wr.cell? ⟨w3.heap.size,2,none⟩=some (.string c.s))/\Hid (ud wr r s u2)/\Hid (w.grownBy wr (some r))) (λ_ cv _=>z+1 - (intOf cv).toNat)
      case atStart=>exact ⟨0,aN _,rfl,rfl,hide (by simpa using (ae Ez).alloc _),HQ,HRB,hide ((ae UI).trans (bP _ _ _))⟩
      case round=>
       obtain ⟨j,hj,rfl,rfl,HOJ,HQJ,NV,HGJ⟩:=hrel;by_cases hjl:j<z+1
       . have Zh:(j:Int)<(z:Int)+1:=by omega
         obtain ⟨q0,q1,q2⟩:=ae HQJ;have ph:w3.heap.size<wr.heap.size:=aX _ _ q0;go_wp2_with (at_builtin;refine oo _ rfl _ _ 198 rfl w.heap.size 214 i0 3 Tryz.underlying198 hi jD (w.heap.size+1) (L+j) n _ rfl ((ae HOJ).alloc _) ⟨wr.heap.size,0,none⟩ 1 1 [.bool c.null,.int .i64 c.n,.string c.s] rfl rfl ?c1 ?c2 (by omega) ?_)
         case c1=>
          intro j u hj
          match j,hj with
          |0,hj=>simp at hj;subst hj;simp [Addr.add]
          |1,hj=>simp at hj;subst hj;simp [Addr.add]
          |2,hj=>simp at hj;subst hj;simp [Addr.add]
         case c2=>intro u hu;simp at hu;rcases hu with rfl|rfl|rfl<;>rfl
         intro w5 UJ zG;have kT:=(bP wr (.cells #[.bool c.null,.int .i64 c.n,.string c.s] 214) (some (w.heap.size+1))).trans zG;have HO5:=hide UJ;have HQ5:=hide (And.intro (kT.cell q0 (by simp;omega)) (And.intro (kT.cell q1 (by simp;omega)) (kT.cell q2 (by simp;omega))));have Zo:=hide ((ae NV).kept kT (by simp;omega));have Zp:=hide ((ae HGJ).andThen kT (λg hg=>by cases hg;omega));clear UJ zG kT q0 q1 q2;go_wp2;go_roundw
         case rel=>
          refine ⟨j+1,by omega,by go_num,rfl,hide ?_,HQ5,Zo,Zp⟩;have ho:=ae HO5;rw [<- wj,bh] at ho;rw [show List.replicate (j+1) c=List.replicate j c++[c] from List.replicate_succ'];exact ho
         case measure=>simp [intOf];omega
       . obtain rfl:j=z+1:=by omega
         go_wp2_with fail;go_roundw
         case rel=>
          refine ⟨L+(z+1),f,u2,l++List.replicate (z+1) c,hide (by rw [au,gb,ae HL]),by omega,by omega,by rw [lA];omega,rfl,hide ?_,HOJ,NV,HGJ⟩;have hd:=(ae Gs).symm.trans (ae HD);rw [aH (by rw [ae HL];exact cF),ae HL,gj hzl] at hd;exact hd
         case measure=>show n - (L+(z+1))<n - L;omega
    . have al1:(n:Int) - (L:Int)<(z:Int)+1:=by omega
      go_wp2_with fail;go_loopw [9,31] (λv cv wr=>∃j:Nat,j<=n - L/\cv=.int .i64 j/\v=.slice (some ⟨w.heap.size+1,0,none⟩) (L+j) n/\Hid (wr.ownsRow w.heap.size 214 3 (.slice (some ⟨w.heap.size+1,0,none⟩) (L+j) n) (L+j) (bw (l++List.replicate j c)))/\Hid (wr.cell? ⟨w3.heap.size,0,none⟩=some (.bool c.null)/\wr.cell? ⟨w3.heap.size,1,none⟩=some (.int .i64 c.n)/\wr.cell? ⟨w3.heap.size,2,none⟩=some (.string c.s))/\Hid (ud wr r s u2)/\Hid (w.grownBy wr (some r))) (λ_ cv _=>n - L - (intOf cv).toNat)
      case atStart=>exact ⟨0,aN _,rfl,rfl,hide (by simpa using (ae Ez).alloc _),HQ,HRB,hide ((ae UI).trans (bP _ _ _))⟩
      case round=>
       obtain ⟨j,hj,rfl,rfl,HOJ,HQJ,NV,HGJ⟩:=hrel;by_cases hjl:j<n - L
       . have Zh:(j:Int)<(n:Int) - (L:Int):=by omega
         obtain ⟨q0,q1,q2⟩:=ae HQJ;have ph:w3.heap.size<wr.heap.size:=aX _ _ q0;go_wp2_with (at_builtin;refine oo _ rfl _ _ 198 rfl w.heap.size 214 i0 3 Tryz.underlying198 hi jD (w.heap.size+1) (L+j) n _ rfl ((ae HOJ).alloc _) ⟨wr.heap.size,0,none⟩ 1 1 [.bool c.null,.int .i64 c.n,.string c.s] rfl rfl ?c1 ?c2 (by omega) ?_)
         case c1=>
          intro j u hj
          match j,hj with
          |0,hj=>simp at hj;subst hj;simp [Addr.add]
          |1,hj=>simp at hj;subst hj;simp [Addr.add]
          |2,hj=>simp at hj;subst hj;simp [Addr.add]
         case c2=>intro u hu;simp at hu;rcases hu with rfl|rfl|rfl<;>rfl
         intro w5 UJ zG;have kT:=(bP wr (.cells #[.bool c.null,.int .i64 c.n,.string c.s] 214) (some (w.heap.size+1))).trans zG;have HO5:=hide UJ;have HQ5:=hide (And.intro (kT.cell q0 (by simp;omega)) (And.intro (kT.cell q1 (by simp;omega)) (kT.cell q2 (by simp;omega))));have Zo:=hide ((ae NV).kept kT (by simp;omega));have Zp:=hide ((ae HGJ).andThen kT (λg hg=>by cases hg;omega));clear UJ zG kT q0 q1 q2;go_wp2;go_roundw
         case rel=>
          refine ⟨j+1,by omega,by go_num,rfl,hide ?_,HQ5,Zo,Zp⟩;have ho:=ae HO5;rw [<- wj,bh] at ho;rw [show List.replicate (j+1) c=List.replicate j c++[c] from List.replicate_succ'];exact ho
         case measure=>simp [intOf];omega
       . obtain rfl:j=n - L:=by omega
         go_wp2_with fail;go_roundw
         case rel=>
          refine ⟨L+(n - L),f,u2,l++List.replicate (n - L) c,hide (by rw [au,gb,ae HL]),by omega,by omega,by rw [lA];omega,rfl,hide ?_,HOJ,NV,HGJ⟩;have hd:=(ae Gs).symm.trans (ae HD);rw [aH (by rw [ae HL];exact cF),ae HL,pO (show n - L<=z+1 by omega)] at hd;exact hd
         case measure=>show n - (L+(n - L))<n - L;omega
  . obtain rfl:L=n:=by omega
    go_wp2;go_ret;refine ⟨_,rfl,?_,ae JU⟩;have hd:=ae HD;rw [yn _ _ _ _ _ _ (by rw [ae HL];omega)] at hd;rw [<- hd];exact ae HO
end S
namespace S
def rT (es:List Cl)(q:Nat):Cl:=es.getD q kO
def iI (s:ByteArray)(es:List Cl)(wd u:Nat):Nat->List Cl
 |0=>[]
 |n+1=>iI s es wd u n++[rT es (rd s (u+n*wd) wd)]
theorem s9 (s:ByteArray)(es:List Cl)(wd u n:Nat):(iI s es wd u n).length=n:=by
 induction n with
 |zero=>rfl
 |succ n ih=>simp [iI,ih]
def xr (s:ByteArray)(k:Int)(u n:Nat):List Cl:=
 iI s (j6 s k (u+8) (rd s u 8)).1 (pw (rd s u 8)) (j6 s k (u+8) (rd s u 8)).2 n
theorem R8 (A:List Cl)(m:Nat)(d:Cl):A++List.replicate (m+1) d=(A++[d])++List.replicate m d:=by
 rw [bh];rfl
theorem JY (r:Nat)(s:ByteArray)(u:Nat)(k:Int)(n:Nat)(w:World)(h:ud w r s u)(hs:s.size<=140737488351232)(hn:n<=255)(hb:u<=1000000) :
 Calls Tryz.prog 301 #[.agg #[],.pointer (some ⟨r,0,none⟩),.int .i64 k,.int .i64 (n:Int)] w λe w'=>∃v,e=.returned v/\w'.ownsRow w.heap.size 214 3 v n (bw (xr s k u n))/\w.grownBy w' (some r):=by
 obtain ⟨i0,hi,jS,jD,jv⟩:=info_parts Tryz.Et;have H:=hide (h.alloc (.cells #[] 284));have Ey:=h.lt;clear h;go_enter Tryz.func301,Tryz.ntmps301;go_wp2_with fail;refine (lB r s u _ _ (ae H) hs (by omega) (by rw [show Int.toNat 8=8 from rfl];omega)).mono ?_;rintro e w0 ⟨rfl,h4,h5⟩;rw [show Int.toNat 8=8 from rfl] at *;have UF:=je s u 8;have UH:(2:Nat) ^ 8=256:=by decide
 have HDD:Hid (xr s k u n=iI s (j6 s k (u+8) (rd s u 8)).1 (pw (rd s u 8)) (j6 s k (u+8) (rd s u 8)).2 n):=hide rfl;generalize rd s u 8=z at *;have agS:z<=255:=by omega
 have GU:=hide h4;have HG0:=hide ((bP w (.cells #[] 284) (some r)).trans h5);have hs0:w.heap.size+1<=w0.heap.size:=by have:=h5.size;simpa using this
 clear h4 h5 UF UH;go_wp2_with (at_make;refine dw _ rfl _ _ 198 rfl w.heap.size 214 i0 _ 3 Tryz.underlying198 hi jS jD _ _ _ _ z rfl rfl rfl rfl (by rw [jv];omega) (by unfold maxLen;omega) (by omega) ?_;intro w1 br bE);rw [qX] at br;have lX:=hide br;have HG:=hide ((ae HG0).trans (bE.but (some r)));have HR:=hide ((ae GU).kept bE (by simp));clear br bE;go_wp2;go_loopw [20] (λc wr=>∃i:Nat,i<=z/\c=.int .i64 i/\Hid (wr.ownsRow w.heap.size 214 3 (.slice (some ⟨w0.heap.size,0,none⟩) z z) z (bw ((j6 s k (u+8) i).1++List.replicate (z - i) kO)))/\Hid (ud wr r s (j6 s k (u+8) i).2)/\Hid (w.grownBy wr (some r))) (λc _=>z - (intOf c).toNat)
 case atStart=>exact ⟨0,aN _,rfl,hide (by simpa [j6] using ae lX),hide (by simpa [j6] using ae HR),HG⟩
 case round=>
  obtain ⟨i,Ot,rfl,HO,Oz,JU⟩:=hrel;by_cases cF:i<z
  . have jI:(i:Int)<(z:Int):=by omega
    have OA:=JV s k (u+8) i;have QT:i*2048<=255*2048:=eF _ (by omega);go_wp2_with fail;refine (rR r s _ k wr (ae Oz) hs (by omega)).mono ?_;rintro e w2 ⟨rfl,h4,h5⟩;have ke:=(ae HO).kept h5 (by simp [Value.ownBlock];omega);have xW:=rS s k (u+8) i;rw [show z - i=(z - (i+1))+1 by omega] at ke;obtain ⟨⟨c0,c1,c2⟩,f0,f1,f2⟩:=mR ke xW;have iP:=wo (c:=(da s k (j6 s k (u+8) i).2).1) ke;rw [xW] at iP;have Ou:(j6 s k (u+8) (i+1)).1=(j6 s k (u+8) i).1++[(da s k (j6 s k (u+8) i).2).1]:=rfl;rw [<- Ou] at iP;have Zg:Hid ((j6 s k (u+8) (i+1)).2=(da s k (j6 s k (u+8) i).2).2):=hide rfl;have H4:=hide h4;have H5:=hide ((ae JU).trans h5);generalize (da s k (j6 s k (u+8) i).2).1=c at *;have pC:=hide iP;clear h4 h5 ke xW Ou iP OA QT;go_wp2_with fail;go_roundw
    case rel=>
     refine ⟨i+1,by omega,by go_num,pC,hide ?_,hide ?_⟩
     . rw [ae Zg]
       exact (ae H4).eo (by rw [aD _ _ _ _ (by show r≠w0.heap.size;omega),aD _ _ _ _ (by show r≠w0.heap.size;omega),aD _ _ _ _ (by show r≠w0.heap.size;omega)])
     . exact bR (bR (bR (ae H5) (by show w.heap.size<=w0.heap.size;omega) _) (by show w.heap.size<=w0.heap.size;omega) _) (by show w.heap.size<=w0.heap.size;omega) _
    case measure=>simp [intOf];omega
  . rename World=>wa
    obtain rfl:i=z:=by omega
    have ho:=ae HO;rw [cM,dp,bH] at ho;have hel:=rS s k (u+8) i;have hep:=JV s k (u+8) i;have QT:i*2048<=255*2048:=eF _ (by omega);generalize hES:(j6 s k (u+8) i).1=es at *;generalize hP:(j6 s k (u+8) i).2=p at *;have hpb:p<=2000000:=by omega
    have HOE:=hide ho;have HEL:=hide hel;have Zq:w0.heap.size<wa.heap.size:=(ho.lt w0.heap.size rfl).2;clear ho hel hep QT hES hP HO;go_wp2_with fail;refine (wk i _ (by omega)).mono ?_;rintro e w3 ⟨rfl,rfl⟩;have Yv:=QN i (by omega);generalize pw i=wd at *;go_wp2_with (at_make;refine dw _ rfl _ _ 198 rfl w.heap.size 214 i0 _ 3 Tryz.underlying198 hi jS jD _ _ _ _ n rfl rfl rfl rfl (by rw [jv];omega) (by unfold maxLen;omega) (by omega) ?_;intro w4 br bE);rw [qX] at br;have HC:=hide br;have HE4:=hide ((ae HOE).kept bE (by simp [Value.ownBlock]));have YA:=hide ((ae JU).trans (bE.but (some r)));have HR4:=hide ((ae Oz).kept bE (by simp));clear br bE;go_wp2;go_loopw [37] (λc wr=>∃j:Nat,j<=n/\c=.int .i64 j/\Hid (wr.ownsRow w.heap.size 214 3 (.slice (some ⟨w0.heap.size,0,none⟩) i i) i (bw es))/\Hid (wr.ownsRow w.heap.size 214 3 (.slice (some ⟨wa.heap.size,0,none⟩) n n) n (bw (iI s es wd p j++List.replicate (n - j) kO)))/\Hid (ud wr r s (p+j*wd))/\Hid (w.grownBy wr (some r))) (λc _=>n - (intOf c).toNat)
    case atStart=>exact ⟨0,aN _,rfl,HE4,hide (by simpa [iI] using ae HC),hide (by simpa using ae HR4),YA⟩
    case round=>
     obtain ⟨j,hj,rfl,HEJ,HCJ,NV,HGJ⟩:=hrel;by_cases hjl:j<n
     . have Zh:(j:Int)<(n:Int):=by omega
       have hjw:j*wd<=255*8:=mO (by omega) (by omega);go_wp2_with fail;refine (lB r s _ _ wr (ae NV) hs (by omega) (by rw [aZ];omega)).mono ?_;rintro e w5 ⟨rfl,h4,h5⟩;rw [aZ] at *;have al5:=je s (p+j*wd) wd;have hw8:2 ^ wd<=2 ^ 8:=dH (by omega) Yv;have UH:(2:Nat) ^ 8=256:=by decide
       have HPL:Hid (iI s es wd p (j+1)=iI s es wd p j++[rT es (rd s (p+j*wd) wd)]):=hide rfl;generalize rd s (p+j*wd) wd=q at *;have hq:q<256:=by omega
       clear al5 hw8 UH;have he5:=(ae HEJ).kept h5 (by simp [Value.ownBlock];omega);have UK:=(ae HCJ).kept h5 (by simp [Value.ownBlock];omega);rw [show n - j=(n - (j+1))+1 by omega] at UK;have xW:=s9 s es wd p j;have Zo:Hid (ud w5 r s (p+(j+1)*wd)):=hide (by rw [qO,<- gR];exact h4);have Zp:=hide ((ae HGJ).trans h5);have HE5:=hide he5;have hs5:wa.heap.size<w5.heap.size:=(UK.lt wa.heap.size rfl).2;by_cases hqi:q<i
       . have al7:(q:Int)<(i:Int):=by omega
         obtain ⟨⟨c0,c1,c2⟩,f0,f1,f2⟩:=mR UK xW;obtain ⟨c,hcq⟩:∃c,es[q]?=some c:=⟨es[q]'(by rw [ae HEL];exact hqi),ah _⟩;obtain ⟨d0,d1,d2⟩:=xp he5 q c hcq;rw [eP] at d0 d1 d2;have iP:=wo (c:=c) UK;rw [xW] at iP;have pC:=hide iP;have Vp:Hid (rT es q=c):=hide (by simp [rT,hcq]);clear h4 h5 he5 UK xW iP hcq;go_wp2_with fail;go_roundw
         case rel=>
          refine ⟨j+1,by omega,by go_num,hide ?_,hide ?_,hide ?_,hide ?_⟩
          . exact (((ae HE5).kept (grownBy_setCell _ ⟨wa.heap.size,_,none⟩ _) (by simp [Value.ownBlock];omega)).kept (grownBy_setCell _ ⟨wa.heap.size,_,none⟩ _) (by simp [Value.ownBlock];omega)).kept (grownBy_setCell _ ⟨wa.heap.size,_,none⟩ _) (by simp [Value.ownBlock];omega)
          . rw [ae HPL,ae Vp];exact ae pC
          . exact (ae Zo).eo (by rw [aD _ _ _ _ (by show r≠wa.heap.size;omega),aD _ _ _ _ (by show r≠wa.heap.size;omega),aD _ _ _ _ (by show r≠wa.heap.size;omega)])
          . exact bR (bR (bR (ae Zp) (by show w.heap.size<=wa.heap.size;omega) _) (by show w.heap.size<=wa.heap.size;omega) _) (by show w.heap.size<=wa.heap.size;omega) _
         case measure=>simp [intOf];omega
       . have al7:(i:Int)<=(q:Int):=by omega
         have Vp:Hid (rT es q=kO):=hide (by rw [rT,List.getD,bp (by rw [ae HEL];omega)];rfl);have HC5:=hide UK;clear h4 h5 he5 UK xW;go_wp2_with fail;go_roundw
         case rel=>
          refine ⟨j+1,by omega,by go_num,HE5,hide ?_,Zo,Zp⟩;rw [ae HPL,ae Vp,<- R8];exact ae HC5
         case measure=>simp [intOf];omega
     . obtain rfl:j=n:=by omega
       have ho:=ae HCJ;rw [cM,dp,bH] at ho;have JW:=hide ho;clear ho;go_wp2;go_ret;exact ⟨_,rfl,by rw [ae HDD];exact ae JW,ae HGJ⟩
end S
namespace S
def EA (least:Int)(v:Nat):Int:=wrap64 (least+(v:Int))
theorem Zr (least:Int)(v:Nat):bZ (EA least v):=by unfold EA wrap64 bZ;omega
theorem Zs {least n:Int}(hn:bZ n)(h:least<=n):EA least (n - least).toNat=n:=by
 unfold EA;rw [show least+((n - least).toNat:Int)=n by omega];unfold wrap64 bZ at *;omega
def dR (s:ByteArray)(k least:Int)(width p:Nat):Cl×Nat:=
 if k=1 then (⟨false,0,⟨(rdStr s (p+4) 7 (rd s p 4)).toArray⟩⟩,p+4+rd s p 4*7) else (⟨false,EA least (rd s p width),ByteArray.empty⟩,p+width)
def ew (s:ByteArray)(cE:Bool)(k least:Int)(width p:Nat):Cl×Nat:=
 if cE then (if qh s p then (⟨true,0,ByteArray.empty⟩,p+1) else dR s k least width (p+1)) else dR s k least width p
theorem yo (s:ByteArray)(k least:Int)(width p:Nat)(hw:width<=127):(dR s k least width p).2<=p+127:=by
 have h:=je s p 4;have h2:(2:Nat) ^ 4=16:=by decide
 unfold dR;split
 . show p+4+rd s p 4*7<=_;omega
 . show p+width<=_;omega
theorem GV (s:ByteArray)(cE:Bool)(k least:Int)(width p:Nat)(hw:width<=127):(ew s cE k least width p).2<=p+128:=by
 have h1:=yo s k least width p hw;have h2:=yo s k least width (p+1) hw;unfold ew;split
 . split
   . show p+1<=_;omega
   . omega
 . omega
def dE (s:ByteArray)(cE:Bool)(k least:Int)(width p:Nat):Nat->List Cl×Nat
 |0=>([],p)
 |n+1=>((dE s cE k least width p n).1++[(ew s cE k least width (dE s cE k least width p n).2).1],(ew s cE k least width (dE s cE k least width p n).2).2)
theorem qY (s:ByteArray)(cE:Bool)(k least:Int)(width p n:Nat):(dE s cE k least width p n).1.length=n:=by
 induction n with
 |zero=>rfl
 |succ n ih=>simp [dE,ih]
theorem EB (s:ByteArray)(cE:Bool)(k least:Int)(width p n:Nat)(hw:width<=127):(dE s cE k least width p n).2<=p+n*128:=by
 induction n with
 |zero=>simp [dE]
 |succ n ih=>have:=GV s cE k least width (dE s cE k least width p n).2 hw;simp only [dE];omega
def nX (s:ByteArray)(k:Int)(u:Nat):Int×Nat×Nat:=
 if k=1 then (0,0,u) else ((da s 0 u).1.n,rd s (da s 0 u).2 7,(da s 0 u).2+7)
def xt (s:ByteArray)(k:Int)(u n:Nat):List Cl:=
 (dE s (qh s u) k (nX s k (u+1)).1 (nX s k (u+1)).2.1 (nX s k (u+1)).2.2 n).1
theorem JZ (A:List Cl)(m:Nat)(d:Cl)(o:Nat)(ho:o<3)(v:Value):(bw (A++List.replicate (m+1) d)).set (A.length*3+o) v=bw A++(([.bool d.null,.int .i64 d.n,.string d.s]:List Value).set o v++bw (List.replicate m d)):=by
 have e1:bw (A++List.replicate (m+1) d)=bw A++([.bool d.null,.int .i64 d.n,.string d.s]++bw (List.replicate m d)):=by
  rw [pR,fQ];rfl
 have hl:=qV A;rw [e1,<- hl,dO _ _ (by omega),show (bw A).length+o - (bw A).length=o by omega,List.set_append_left _ _ (by simpa using ho)]
theorem yJ (A:List Cl)(m:Nat)(d c:Cl):bw ((A++[c])++List.replicate m d)=bw A++([.bool c.null,.int .i64 c.n,.string c.s]++bw (List.replicate m d)):=by
 rw [bh,pR];rfl
theorem Cr {w:World}{base g n cap i:Nat}{A:List Cl}{m:Nat}(hi:A.length=i)(h:w.ownsRow base 214 3 (.slice (some ⟨g,0,none⟩) n cap) n (bw (A++List.replicate (m+1) kO))) :
 (w.setCell ⟨g,i*3,none⟩ (.bool true)).ownsRow base 214 3 (.slice (some ⟨g,0,none⟩) n cap) n (bw ((A++[⟨true,0,ByteArray.empty⟩])++List.replicate m kO)):=by
 have e:=JZ A m kO 0 (by omega) (.bool true);rw [hi,show i*3+0=i*3 from rfl] at e;rw [yJ];have h':=(h.stored (i*3) (.bool true)).1;rw [e] at h';exact h'
theorem EC {w:World}{base g n cap i:Nat}{A:List Cl}{m:Nat}(hi:A.length=i)(x:Int)(h:w.ownsRow base 214 3 (.slice (some ⟨g,0,none⟩) n cap) n (bw (A++List.replicate (m+1) kO))) :
 (w.setCell ⟨g,i*3+1,none⟩ (.int .i64 x)).ownsRow base 214 3 (.slice (some ⟨g,0,none⟩) n cap) n (bw ((A++[⟨false,x,ByteArray.empty⟩])++List.replicate m kO)):=by
 have e:=JZ A m kO 1 (by omega) (.int .i64 x);rw [hi] at e;rw [yJ];have h':=(h.stored (i*3+1) (.int .i64 x)).1;rw [e] at h';exact h'
theorem ED {w:World}{base g n cap i:Nat}{A:List Cl}{m:Nat}(hi:A.length=i)(x:ByteArray)(h:w.ownsRow base 214 3 (.slice (some ⟨g,0,none⟩) n cap) n (bw (A++List.replicate (m+1) kO))) :
 (w.setCell ⟨g,i*3+2,none⟩ (.string x)).ownsRow base 214 3 (.slice (some ⟨g,0,none⟩) n cap) n (bw ((A++[⟨false,0,x⟩])++List.replicate m kO)):=by
 have e:=JZ A m kO 2 (by omega) (.string x);rw [hi] at e;rw [yJ];have h':=(h.stored (i*3+2) (.string x)).1;rw [e] at h';exact h'
theorem Zt (nl:Bool)(n:Int)(x:ByteArray)(w:World):(Instr.field 214 (.agg #[.bool nl,.int .i64 n,.string x]) 1).run Tryz.prog w=.ok (.int .i64 n) w:=by kernel_rfl
theorem Ly (least:Int)(z:Nat):wrap64 (IntKind.u64.wrap (IntKind.u64.wrap least+(z:Int)))=EA least z:=by
 unfold EA wrap64;rw [fH,fH];omega
theorem J0 (r:Nat)(s:ByteArray)(u:Nat)(k:Int)(n:Nat)(w:World)(h:ud w r s u)(hs:s.size<=140737488351232)(hn:n<=255)(hb:u<=1000000) :
 Calls Tryz.prog 304 #[.agg #[],.pointer (some ⟨r,0,none⟩),.int .i64 k,.int .i64 (n:Int)] w λe w'=>∃v,e=.returned v/\w'.ownsRow w.heap.size 214 3 v n (bw (xt s k u n))/\w.grownBy w' (some r):=by
 obtain ⟨i0,hi,jS,jD,jv⟩:=info_parts Tryz.Et;have H:=hide (h.alloc (.cells #[] 285));have Ey:=h.lt;clear h;go_enter Tryz.func304,Tryz.ntmps304;go_wp2_with fail;refine (wm r s u _ (ae H) hs (by omega)).mono ?_;rintro e w0 ⟨rfl,h4,h5⟩;have HDD:Hid (xt s k u n=(dE s (qh s u) k (nX s k (u+1)).1 (nX s k (u+1)).2.1 (nX s k (u+1)).2.2 n).1):=hide rfl;generalize qh s u=cE at *;have GU:=hide h4;have HG0:=hide ((bP w (.cells #[] 285) (some r)).trans h5);clear h4 h5;by_cases hk:k=1
 . have HF:Hid (nX s k (u+1)=(0,0,u+1)):=hide (by unfold nX;rw [aH hk])
   have vH:=hide hk;have t1:(k != 1)=false:=by simp [hk]
   have t2:(k==1)=true:=by simp [hk]
   clear hk;go_wp2_with (at_make;refine dw _ rfl _ _ 198 rfl w.heap.size 214 i0 _ 3 Tryz.underlying198 hi jS jD _ _ _ _ n rfl rfl rfl rfl (by rw [jv];omega) (by unfold maxLen;omega) (by have:=(ae HG0).size;omega) ?_;intro w1 br bE);rw [qX] at br;have lX:=hide br;have HG:=hide ((ae HG0).trans (bE.but (some r)));have HR:=hide ((ae GU).kept bE (by simp));have hsw:=(ae HG0).size;clear br bE;go_wp2;go_loopw [28] (λc wr=>∃i:Nat,i<=n/\c=.int .i64 i/\Hid (wr.ownsRow w.heap.size 214 3 (.slice (some ⟨w0.heap.size,0,none⟩) n n) n (bw ((dE s cE k 0 0 (u+1) i).1++List.replicate (n - i) kO)))/\Hid (ud wr r s (dE s cE k 0 0 (u+1) i).2)/\Hid (w.grownBy wr (some r))) (λc _=>n - (intOf c).toNat)
   case atStart=>exact ⟨0,aN _,rfl,hide (by simpa [dE] using ae lX),hide (by simpa [dE] using ae HR),HG⟩
   case round=>
    obtain ⟨i,Ot,rfl,HO,Oz,JU⟩:=hrel;by_cases cF:i<n
    . have jI:(i:Int)<(n:Int):=by omega
      have OA:=EB s cE k 0 0 (u+1) i (by omega);have QT:i*128<=255*128:=eF _ (by omega);have xW:=qY s cE k 0 0 (u+1) i;have Ou:(dE s cE k 0 0 (u+1) (i+1)).1=(dE s cE k 0 0 (u+1) i).1++[(ew s cE k 0 0 (dE s cE k 0 0 (u+1) i).2).1]:=rfl;have Vu:(dE s cE k 0 0 (u+1) (i+1)).2=(ew s cE k 0 0 (dE s cE k 0 0 (u+1) i).2).2:=rfl;generalize (dE s cE k 0 0 (u+1) i).1=A at *;generalize (dE s cE k 0 0 (u+1) i).2=q at *;have Gt:q<=4000000:=by omega
      have J1:=hide xW;have HS1:=hide Ou;have Gu:=hide Vu;clear OA QT xW Ou Vu
      cases cE
      . have Vv:Hid (ew s false k 0 0 q=dR s k 0 0 q):=hide rfl
        have Zu:=Oz;have Zv:=HO;have Zw:=JU;go_wp2_with fail;refine (lB r s (q) _ _ (ae Zu) hs (by omega) (by rw [show Int.toNat 4=4 from rfl];omega)).mono ?_;rintro e w6 ⟨rfl,h4,h5⟩;rw [show Int.toNat 4=4 from rfl] at *;have Vw:Hid (dR s k 0 0 (q)=(⟨false,0,⟨(rdStr s (q+4) 7 (rd s (q) 4)).toArray⟩⟩,q+4+rd s (q) 4*7)):=hide (by unfold dR;rw [aH (ae vH)]);have hr4:=je s (q) 4;have h24:(2:Nat) ^ 4=16:=by decide
        generalize rd s (q) 4=z at *;have ama:z<=15:=by omega
        have HR6:=hide h4;have Vx:=hide ((ae Zv).kept h5 (by simp [Value.ownBlock];omega));have HG6:=hide ((ae Zw).trans h5);clear h4 h5 hr4 h24;go_wp2_with fail;refine (sG r s _ _ _ _ (ae HR6) hs (by omega) (by omega) (by omega) (by omega) (by omega)).mono ?_;rintro e w7 ⟨rfl,h4,h5⟩;rw [show Int.toNat 7=7 from rfl,aZ] at *;have J2:=(ae Vx).kept h5 (by simp [Value.ownBlock];omega);have HR7:=hide h4;have HG7:=hide ((ae HG6).trans h5);rw [show n - i=(n - (i+1))+1 by omega] at J2;obtain ⟨⟨c0,c1,c2⟩,f0,f1,f2⟩:=mR J2 (ae J1);have pC:=hide (ED (ae J1) ⟨(rdStr s (q+4) 7 z).toArray⟩ J2);clear h4 h5 J2;go_wp2_with fail;go_roundw
        case rel=>
         refine ⟨i+1,by omega,by go_num,hide ?_,hide ?_,hide ?_⟩
         . rw [ae HS1,ae Vv,ae Vw];exact ae pC
         . rw [ae Gu,ae Vv,ae Vw]
           exact (ae HR7).eo (aD _ _ _ _ (by show r≠w0.heap.size;omega))
         . exact bR (ae HG7) (by show w.heap.size<=w0.heap.size;omega) _
        case measure=>simp [intOf];omega
      . have Vv:Hid (ew s true k 0 0 q=if qh s q then (⟨true,0,ByteArray.empty⟩,q+1) else dR s k 0 0 (q+1)):=hide rfl
        go_wp2_with fail;refine (wm r s q _ (ae Oz) hs (by omega)).mono ?_;rintro e w5 ⟨rfl,h4,h5⟩;have Zu:=hide h4;have Zv:=hide ((ae HO).kept h5 (by simp [Value.ownBlock];omega));have Zw:=hide ((ae JU).trans h5);clear h4 h5
        cases yh:qh s q
        . have EF:Hid (ew s true k 0 0 q=dR s k 0 0 (q+1)):=hide (by rw [ae Vv,yh];rfl)
          clear yh;go_wp2_with fail;refine (lB r s (q+1) _ _ (ae Zu) hs (by omega) (by rw [show Int.toNat 4=4 from rfl];omega)).mono ?_;rintro e w6 ⟨rfl,h4,h5⟩;rw [show Int.toNat 4=4 from rfl] at *;have Vw:Hid (dR s k 0 0 (q+1)=(⟨false,0,⟨(rdStr s (q+1+4) 7 (rd s (q+1) 4)).toArray⟩⟩,q+1+4+rd s (q+1) 4*7)):=hide (by unfold dR;rw [aH (ae vH)]);have hr4:=je s (q+1) 4;have h24:(2:Nat) ^ 4=16:=by decide
          generalize rd s (q+1) 4=z at *;have ama:z<=15:=by omega
          have HR6:=hide h4;have Vx:=hide ((ae Zv).kept h5 (by simp [Value.ownBlock];omega));have HG6:=hide ((ae Zw).trans h5);clear h4 h5 hr4 h24;go_wp2_with fail;refine (sG r s _ _ _ _ (ae HR6) hs (by omega) (by omega) (by omega) (by omega) (by omega)).mono ?_;rintro e w7 ⟨rfl,h4,h5⟩;rw [show Int.toNat 7=7 from rfl,aZ] at *;have J2:=(ae Vx).kept h5 (by simp [Value.ownBlock];omega);have HR7:=hide h4;have HG7:=hide ((ae HG6).trans h5);rw [show n - i=(n - (i+1))+1 by omega] at J2;obtain ⟨⟨c0,c1,c2⟩,f0,f1,f2⟩:=mR J2 (ae J1);have pC:=hide (ED (ae J1) ⟨(rdStr s (q+1+4) 7 z).toArray⟩ J2);clear h4 h5 J2;go_wp2_with fail;go_roundw
          case rel=>
           refine ⟨i+1,by omega,by go_num,hide ?_,hide ?_,hide ?_⟩
           . rw [ae HS1,ae EF,ae Vw];exact ae pC
           . rw [ae Gu,ae EF,ae Vw]
             exact (ae HR7).eo (aD _ _ _ _ (by show r≠w0.heap.size;omega))
           . exact bR (ae HG7) (by show w.heap.size<=w0.heap.size;omega) _
          case measure=>simp [intOf];omega
        . have EF:Hid (ew s true k 0 0 q=(⟨true,0,ByteArray.empty⟩,q+1)):=hide (by rw [ae Vv,yh];rfl)
          clear yh;have Zx:=ae Zv;rw [show n - i=(n - (i+1))+1 by omega] at Zx;obtain ⟨⟨c0,c1,c2⟩,f0,f1,f2⟩:=mR Zx (ae J1);have pC:=hide (Cr (ae J1) Zx);clear Zx;go_wp2_with fail;go_roundw
          case rel=>
           refine ⟨i+1,by omega,by go_num,hide ?_,hide ?_,hide ?_⟩
           . rw [ae HS1,ae EF];exact ae pC
           . rw [ae Gu,ae EF]
             exact (ae Zu).eo (aD _ _ _ _ (by show r≠w0.heap.size;omega))
           . exact bR (ae Zw) (by show w.heap.size<=w0.heap.size;omega) _
          case measure=>simp [intOf];omega
    . obtain rfl:i=n:=by omega
      have ho:=ae HO;rw [cM,dp,bH] at ho;have JW:=hide ho;clear ho;go_wp2;go_ret;exact ⟨_,rfl,by rw [ae HDD,ae HF];exact ae JW,ae JU⟩
 . have HF:Hid (nX s k (u+1)=((da s 0 (u+1)).1.n,rd s (da s 0 (u+1)).2 7,(da s 0 (u+1)).2+7)):=hide (by unfold nX;rw [aA hk])
   have vH:=hide hk;have t1:(k != 1)=true:=by simp [hk]
   have t2:(k==1)=false:=by simp [hk]
   clear hk;go_wp2_with fail;refine (rR r s (u+1) 0 w0 (ae GU) hs (by omega)).mono ?_;rintro e w9 ⟨rfl,h4,h5⟩;have vQ:=yI s 0 (u+1);generalize (da s 0 (u+1)).1=c9 at *;generalize (da s 0 (u+1)).2=p9 at *;have HR9:=hide h4;have HG9:=hide ((ae HG0).trans h5);clear h4 h5;have amc:=Zt c9.null c9.n c9.s;go_wp2_with fail;refine (lB r s p9 _ w9 (ae HR9) hs (by omega) (by rw [show Int.toNat 7=7 from rfl];omega)).mono ?_;rintro e w8 ⟨rfl,h4,h5⟩;rw [show Int.toNat 7=7 from rfl] at *;have Ct:=je s p9 7;have h27:(2:Nat) ^ 7=128:=by decide
   generalize rd s p9 7=width at *;have apH:width<=127:=by omega
   have HR8:=hide h4;have HG8:=hide ((ae HG9).trans h5);clear h4 h5 Ct h27 amc;generalize c9.n=least at *;go_wp2_with (at_make;refine dw _ rfl _ _ 198 rfl w.heap.size 214 i0 _ 3 Tryz.underlying198 hi jS jD _ _ _ _ n rfl rfl rfl rfl (by rw [jv];omega) (by unfold maxLen;omega) (by have:=(ae HG8).size;omega) ?_;intro w1 br bE);rw [qX] at br;have lX:=hide br;have HG:=hide ((ae HG8).trans (bE.but (some r)));have HR:=hide ((ae HR8).kept bE (by simp));have hsw:=(ae HG8).size;clear br bE;go_wp2;go_loopw [28] (λc wr=>∃i:Nat,i<=n/\c=.int .i64 i/\Hid (wr.ownsRow w.heap.size 214 3 (.slice (some ⟨w8.heap.size,0,none⟩) n n) n (bw ((dE s cE k least width (p9+7) i).1++List.replicate (n - i) kO)))/\Hid (ud wr r s (dE s cE k least width (p9+7) i).2)/\Hid (w.grownBy wr (some r))) (λc _=>n - (intOf c).toNat)
   case atStart=>exact ⟨0,aN _,rfl,hide (by simpa [dE] using ae lX),hide (by simpa [dE] using ae HR),HG⟩
   case round=>
    obtain ⟨i,Ot,rfl,HO,Oz,JU⟩:=hrel;by_cases cF:i<n
    . have jI:(i:Int)<(n:Int):=by omega
      have OA:=EB s cE k least width (p9+7) i (by omega);have QT:i*128<=255*128:=eF _ (by omega);have xW:=qY s cE k least width (p9+7) i;have Ou:(dE s cE k least width (p9+7) (i+1)).1=(dE s cE k least width (p9+7) i).1++[(ew s cE k least width (dE s cE k least width (p9+7) i).2).1]:=rfl;have Vu:(dE s cE k least width (p9+7) (i+1)).2=(ew s cE k least width (dE s cE k least width (p9+7) i).2).2:=rfl;generalize (dE s cE k least width (p9+7) i).1=A at *;generalize (dE s cE k least width (p9+7) i).2=q at *;have Gt:q<=4000000:=by omega
      have J1:=hide xW;have HS1:=hide Ou;have Gu:=hide Vu;clear OA QT xW Ou Vu
      cases cE
      . have Vv:Hid (ew s false k least width q=dR s k least width q):=hide rfl
        have Zu:=Oz;have Zv:=HO;have Zw:=JU;go_wp2_with fail;refine (lB r s (q) _ _ (ae Zu) hs (by omega) (by rw [aZ];omega)).mono ?_;rintro e w6 ⟨rfl,h4,h5⟩;rw [aZ] at *;have Vw:Hid (dR s k least width (q)=(⟨false,EA least (rd s (q) width),ByteArray.empty⟩,q+width)):=hide (by unfold dR;rw [aA (ae vH)]);have amf:=Ik s (q) width;have ac2:=hide (Ly least (rd s (q) width));generalize rd s (q) width=z at *;have J2:=(ae Zv).kept h5 (by simp [Value.ownBlock];omega);have HR7:=hide h4;have HG7:=hide ((ae Zw).trans h5);rw [show n - i=(n - (i+1))+1 by omega] at J2;obtain ⟨⟨c0,c1,c2⟩,f0,f1,f2⟩:=mR J2 (ae J1);have pC:=hide (EC (ae J1) (EA least z) J2);clear h4 h5 J2;go_wp2_with fail;go_roundw
        case rel=>
         rw [ae ac2];refine ⟨i+1,by omega,by go_num,hide ?_,hide ?_,hide ?_⟩
         . rw [ae HS1,ae Vv,ae Vw];exact ae pC
         . rw [ae Gu,ae Vv,ae Vw]
           exact (ae HR7).eo (aD _ _ _ _ (by show r≠w8.heap.size;omega))
         . exact bR (ae HG7) (by show w.heap.size<=w8.heap.size;omega) _
        case measure=>simp [intOf];omega
      . have Vv:Hid (ew s true k least width q=if qh s q then (⟨true,0,ByteArray.empty⟩,q+1) else dR s k least width (q+1)):=hide rfl
        go_wp2_with fail;refine (wm r s q _ (ae Oz) hs (by omega)).mono ?_;rintro e w5 ⟨rfl,h4,h5⟩;have Zu:=hide h4;have Zv:=hide ((ae HO).kept h5 (by simp [Value.ownBlock];omega));have Zw:=hide ((ae JU).trans h5);clear h4 h5
        cases yh:qh s q
        . have EF:Hid (ew s true k least width q=dR s k least width (q+1)):=hide (by rw [ae Vv,yh];rfl)
          clear yh;go_wp2_with fail;refine (lB r s (q+1) _ _ (ae Zu) hs (by omega) (by rw [aZ];omega)).mono ?_;rintro e w6 ⟨rfl,h4,h5⟩;rw [aZ] at *;have Vw:Hid (dR s k least width (q+1)=(⟨false,EA least (rd s (q+1) width),ByteArray.empty⟩,q+1+width)):=hide (by unfold dR;rw [aA (ae vH)]);have amf:=Ik s (q+1) width;have ac2:=hide (Ly least (rd s (q+1) width));generalize rd s (q+1) width=z at *;have J2:=(ae Zv).kept h5 (by simp [Value.ownBlock];omega);have HR7:=hide h4;have HG7:=hide ((ae Zw).trans h5);rw [show n - i=(n - (i+1))+1 by omega] at J2;obtain ⟨⟨c0,c1,c2⟩,f0,f1,f2⟩:=mR J2 (ae J1);have pC:=hide (EC (ae J1) (EA least z) J2);clear h4 h5 J2;go_wp2_with fail;go_roundw
          case rel=>
           rw [ae ac2];refine ⟨i+1,by omega,by go_num,hide ?_,hide ?_,hide ?_⟩
           . rw [ae HS1,ae EF,ae Vw];exact ae pC
           . rw [ae Gu,ae EF,ae Vw]
             exact (ae HR7).eo (aD _ _ _ _ (by show r≠w8.heap.size;omega))
           . exact bR (ae HG7) (by show w.heap.size<=w8.heap.size;omega) _
          case measure=>simp [intOf];omega
        . have EF:Hid (ew s true k least width q=(⟨true,0,ByteArray.empty⟩,q+1)):=hide (by rw [ae Vv,yh];rfl)
          clear yh;have Zx:=ae Zv;rw [show n - i=(n - (i+1))+1 by omega] at Zx;obtain ⟨⟨c0,c1,c2⟩,f0,f1,f2⟩:=mR Zx (ae J1);have pC:=hide (Cr (ae J1) Zx);clear Zx;go_wp2_with fail;go_roundw
          case rel=>
           refine ⟨i+1,by omega,by go_num,hide ?_,hide ?_,hide ?_⟩
           . rw [ae HS1,ae EF];exact ae pC
           . rw [ae Gu,ae EF]
             exact (ae Zu).eo (aD _ _ _ _ (by show r≠w8.heap.size;omega))
           . exact bR (ae Zw) (by show w.heap.size<=w8.heap.size;omega) _
          case measure=>simp [intOf];omega
    . obtain rfl:i=n:=by omega
      have ho:=ae HO;rw [cM,dp,bH] at ho;have JW:=hide ho;clear ho;go_wp2;go_ret;exact ⟨_,rfl,by rw [ae HDD,ae HF];exact ae JW,ae JU⟩
end S
namespace S
def nE (p k:Int)(cs:List Cl):Bool:=decide (0<=p/\p<=3)&&(decide (0<=k/\k<=2)&&cs.all (okB k))
theorem xu (p k:Int)(n:Nat)(a:Option Addr)(cap:Nat)(w:World)(hn:64<n)(hn2:n<=140737488355328) :
 Calls Tryz.prog 140 #[.int .i64 p,.int .i64 k,.slice a n cap] w λe w'=>e=.returned (.tuple #[.string ByteArray.empty,.int .i64 8])/\w=w':=by
 have NW:(64:Int)<(n:Int):=by omega
 go_enter Tryz.func140,Tryz.ntmps140;go_wp2;go_ret2;exact ⟨rfl,rfl⟩
theorem xv (p k:Int)(cs:List Cl)(a:Option Addr)(b off cap:Nat)(w:World)(ha:0<cs.length->a=some ⟨b,off,none⟩)(hc:gT w b off cs)(hlen:cs.length<=64)
 (hs:∀c∈cs,c.s.size<=140737488351232) (Zy:nE p k cs=false) :
 Calls Tryz.prog 140 #[.int .i64 p,.int .i64 k,.slice a cs.length cap] w λe w'=>e=.returned (.tuple #[.string ByteArray.empty,.int .i64 7])/\Below w.heap.size w w':=by
 have Vj:(cs.length:Int)<=64:=by omega
 have H1:=hide (yl k cs a b off cap w ha hc (by omega) hs);have HP:=hide (sF p w);have HKK:=hide (Ew k w);have HB:=hide Zy;clear ha hc hs Zy;go_enter Tryz.func140,Tryz.ntmps140;go_wp2_with fail;refine (ae HP).mono ?_;rintro e w1 ⟨rfl,rfl⟩
 cases hp:decide (0<=p/\p<=3)
 . clear hp
   go_wp2;go_ret2;exact ⟨rfl,ag _ _⟩
 . have HPT:=hide hp
   clear hp;go_wp2_with fail;refine (ae HKK).mono ?_;rintro e w1 ⟨rfl,rfl⟩
   cases hk:decide (0<=k/\k<=2)
   . clear hk
     go_wp2;go_ret2;exact ⟨rfl,ag _ _⟩
   . have HKT:=hide hk
     clear hk;go_wp2_with fail;refine (ae H1).mono ?_;rintro e w1 ⟨rfl,h1⟩;have kT:cs.all (okB k)=false:=by
      have:=ae HB;unfold nE at this;rw [ae HPT,ae HKT] at this;simpa using this
     rw [kT];clear kT;go_wp2;go_ret2;exact ⟨rfl,h1⟩
def gI (s:ByteArray)(p k:Int)(u n:Nat):List Cl:=if p=1 then DM s k u n else if p=2 then xr s k u n else if p=3 then xt s k u n else (j6 s k u n).1
def Made (c:Cl):Prop:=bZ c.n/\c.s.size<=1000
theorem Lz:Made kO:=⟨by simp [kO,bZ],by show (0:Nat)<=1000;omega⟩
theorem zQ (s:ByteArray)(k:Int)(u:Nat):Made (da s k u).1:=by
 have h:=je s u 8;have h2:(2:Nat) ^ 8=256:=by decide
 unfold da;split
 . exact ⟨by simp [bZ],by show (0:Nat)<=1000;omega⟩
 . split
   . refine ⟨by simp [bZ],?_⟩
     show (rdStr s (u+8) 8 (rd s u 8 - 1)).toArray.size<=1000;rw [sx,kE];omega
   . exact ⟨Lj (by have:=Ik s (u+8) (rd s u 8 - 1);simpa using this),by show (0:Nat)<=1000;omega⟩
theorem Iq (s:ByteArray)(k:Int)(u n:Nat):∀c∈(j6 s k u n).1,Made c:=by
 induction n with
 |zero=>intro c hc;simp [j6] at hc
 |succ n ih=>
   intro c hc;simp only [j6,List.mem_append,List.mem_cons,List.not_mem_nil,or_false] at hc;rcases hc with hc|hc
   . exact ih c hc
   . rw [hc];exact zQ _ _ _
theorem GX (s:ByteArray)(k:Int)(n:Nat):∀(f:Nat) (l:List Cl) (u:Nat),(∀c∈l,Made c)->∀c∈jN s k n f l u,Made c:=by
 intro f
 induction f with
 |zero=>intro l u h;exact h
 |succ f ih=>
   intro l u h;rw [jN];split
   . apply ih
     intro c hc;rcases dm.1 hc with hc|hc
     . exact h c hc
     . rw [List.eq_of_mem_replicate hc];exact zQ _ _ _
   . exact h
theorem EG (s:ByteArray)(es:List Cl)(wd u n:Nat)(h:∀c∈es,Made c):∀c∈iI s es wd u n,Made c:=by
 induction n with
 |zero=>intro c hc;simp [iI] at hc
 |succ n ih=>
   intro c hc;simp only [iI,List.mem_append,List.mem_cons,List.not_mem_nil,or_false] at hc;rcases hc with hc|hc
   . exact ih c hc
   . rw [hc]
     unfold rT;rw [List.getD]
     cases hq:es[rd s (u+n*wd) wd]? with
     |none=>exact Lz
     |some d=>exact h d (aG hq)
theorem vt (s:ByteArray)(k least:Int)(width p:Nat):Made (dR s k least width p).1:=by
 have h:=je s p 4;have h2:(2:Nat) ^ 4=16:=by decide
 unfold dR;split
 . refine ⟨by simp [bZ],?_⟩
   show (rdStr s (p+4) 7 (rd s p 4)).toArray.size<=1000;rw [sx,kE];omega
 . exact ⟨Zr _ _,by show (0:Nat)<=1000;omega⟩
theorem C8 (s:ByteArray)(cE:Bool)(k least:Int)(width p:Nat):Made (ew s cE k least width p).1:=by
 unfold ew;split
 . split
   . exact ⟨by simp [bZ],by show (0:Nat)<=1000;omega⟩
   . exact vt _ _ _ _ _
 . exact vt _ _ _ _ _
theorem J3 (s:ByteArray)(cE:Bool)(k least:Int)(width p n:Nat):∀c∈(dE s cE k least width p n).1,Made c:=by
 induction n with
 |zero=>intro c hc;simp [dE] at hc
 |succ n ih=>
   intro c hc;simp only [dE,List.mem_append,List.mem_cons,List.not_mem_nil,or_false] at hc;rcases hc with hc|hc
   . exact ih c hc
   . rw [hc];exact C8 _ _ _ _ _ _
theorem qC (s:ByteArray)(p k:Int)(u n:Nat):∀c∈gI s p k u n,Made c:=by
 unfold gI;split
 . exact GX s k n n [] u (by simp)
 . split
   . exact EG _ _ _ _ _ (Iq _ _ _ _)
   . split
     . exact J3 _ _ _ _ _ _ _
     . exact Iq _ _ _ _
theorem oG (s:ByteArray)(p k:Int)(u n:Nat):(gI s p k u n).length=n:=by
 unfold gI;split
 . exact C6 s k n n [] u (by simp) (by simp)
 . split
   . exact s9 _ _ _ _ _
   . split
     . exact qY _ _ _ _ _ _ _
     . exact rS _ _ _ _
theorem Tryz.ac3 (w:World):(method 519 283 (.agg #[]) (fO Tryz.prog 265 0)).run Tryz.prog w=.ok (291,.agg #[]) w:=by kernel_rfl
theorem Tryz.ac4 (w:World):(method 519 284 (.agg #[]) (fO Tryz.prog 265 0)).run Tryz.prog w=.ok (301,.agg #[]) w:=by kernel_rfl
theorem Tryz.ac5 (w:World):(method 519 285 (.agg #[]) (fO Tryz.prog 265 0)).run Tryz.prog w=.ok (304,.agg #[]) w:=by kernel_rfl
theorem Tryz.ac6 (w:World):(method 519 286 (.agg #[]) (fO Tryz.prog 265 0)).run Tryz.prog w=.ok (309,.agg #[]) w:=by kernel_rfl
def Good (s:ByteArray):Prop:=
 rd s 16 8<=64/\nE (rd s 0 8:Int) (rd s 8 8:Int) (gI s (rd s 0 8:Int) (rd s 8 8:Int) 24 (rd s 16 8))=true/\∃bs,Lays bs (gi (rd s 0 8:Int) (rd s 8 8:Int) (gI s (rd s 0 8:Int) (rd s 8 8:Int) 24 (rd s 16 8)))/\strOf bs=s
end S
namespace S
theorem OB {bs:List Nat}(h:∀b∈bs,b<256)(j:Nat):zH (strOf bs) j=bs.getD j 0:=by
 unfold zH strOf;by_cases hj:j<bs.length
 . simp only [List.getD,List.getElem?_map,List.getElem?_eq_getElem hj,Option.map_some,Option.getD_some]
   exact UInt8.toNat_ofNat_of_lt' (h _ (fG hj))
 . simp [List.getD,List.getElem?_eq_none (Nat.le_of_not_lt hj)]
theorem OC (bs:List Nat):(strOf bs).size=bs.length:=by
 show ((bs.map UInt8.ofNat).toArray).size=_;simp
theorem plain_round {s:ByteArray}{k:Int}{u:Nat}{cs:List Cl}(hf:∀c∈cs,vl k c) :
 ∀i,i<=cs.length->At s u (gd k (cs.take i))->j6 s k u i=(cs.take i,u+(gd k (cs.take i)).length):=by
 intro i
 induction i with
 |zero=>intro _ _;simp [j6,gd]
 |succ i ih=>
   intro hi jM;have hc:cs[i]?=some cs[i]:=ah (by omega);rw [dF hc,pQ,At.append] at jM;have h1:=ih (by omega) jM.1;have h2:=JG (hf _ (fG (show i<cs.length by omega))) jM.2;rw [j6,h1,dF hc,pQ];simp only [h2,List.length_append];rw [gR]
theorem Zz (c:Cl)(r:List Cl):(c::r).take (fr (c::r))=List.replicate (fr (c::r)) c:=by
 have h:∀l:List Cl,l.take (l.takeWhile λd=>d.beq c).length=List.replicate (l.takeWhile λd=>d.beq c).length c:=by
  intro l
  induction l with
  |nil=>simp
  |cons d l ih=>
    rw [eN]
    cases hb:d.beq c
    . simp
    . have e:=(Cl.beq_iff d c).1 hb
      subst e;simp only [if_true,List.length_cons,List.take_succ_cons,List.replicate_succ,ih]
 exact h (c::r)
theorem OD {s:ByteArray}{k:Int}{n:Nat}:∀(f:Nat) (l r:List Cl) (u:Nat),(∀c∈r,vl k c)->l.length+r.length=n->r.length<=f->n<=255->At s u (mQ k r)->jN s k n f l u=l++r:=by
 intro f
 induction f with
 |zero=>
   intro l r u _ _ hr _ _;have:r=[]:=fT (by omega);subst this;simp [jN]
 |succ f ih=>
   intro l r u hf hn hr amh jM
   cases r with
   |nil=>rw [yn _ _ _ _ _ _ (by simp at hn;omega)];simp
   |cons c r=>
     have hp:=Ee (cs:=c::r) (by simp);have hl:=QL (c::r);have hlen:(c::r).length=r.length+1:=by simp
     rw [uo,At.append,At.append,bk] at jM;obtain ⟨⟨h1,h2⟩,h3⟩:=jM;have e1:=kD h1 (by omega) (by omega);have e2:=JG (hf c (by simp)) h2;rw [au,bk,<- gR] at h3;rw [jN,aH (by omega),e1,e2];simp only;rw [show fr (c::r) - 1+1=fr (c::r) by omega,gj (by omega),<- Zz];rw [ih _ ((c::r).drop (fr (c::r))) _ (λd hd=>hf d (jb hd)) ?_ ?_ amh h3]
     . rw [bh,ml]
     . rw [au,bV,cu];omega
     . rw [cu];omega
theorem J4 {s:ByteArray}{es cs:List Cl}{u:Nat}(hk:∀c∈cs,known es c=true)(hp:pw es.length<=64) :
 ∀i,i<=cs.length->At s u (jJ es (cs.take i))->iI s es (pw es.length) u i=cs.take i:=by
 intro i
 induction i with
 |zero=>intro _ _;simp [iI]
 |succ i ih=>
   intro hi jM;have hc:cs[i]?=some cs[i]:=ah (by omega);rw [dF hc,v7,At.append,sE,bV,gj (by omega)] at jM;have yG:=hk _ (fG (show i<cs.length by omega));rw [iI,ih (by omega) jM.1,dF hc,kD jM.2 hp (agK (zO yG)),rT,List.getD,RY yG];rfl
theorem OE {s:ByteArray}{k:Int}{u:Nat}{cs:List Cl}(hf:∀c∈cs,vl k c)(hn:cs.length<=64)(jM:At s u (uq k cs)):xr s k u cs.length=cs:=by
 have hel:=zN cs;unfold uq at jM;rw [At.append,At.append,bk,au,bk] at jM;obtain ⟨⟨h1,h2⟩,h3⟩:=jM;have e1:=kD h1 (by omega) (by omega);have e2:=plain_round (s:=s) (k:=k) (u:=u+8) (cs:=nD cs) (λc hc=>hf c (Em hc)) (nD cs).length (af _) (by rw [aP (af _)];exact h2);rw [aP (af _)] at e2;unfold xr;rw [e1,e2];have Yv:=QN (nD cs).length (by omega);have e3:=J4 (s:=s) (es:=nD cs) (cs:=cs) (u:=u+8+(gd k (nD cs)).length) (λc hc=>En hc) (by omega) cs.length (af _) (by rw [aP (af _),gR];exact h3);rw [aP (af _)] at e3;exact e3
theorem yq {s:ByteArray}{k least:Int}{width p:Nat}{c:Cl}(hf:vl k c)(hn:c.null=false)(hw:width<=64)(hl:least<=c.n)(hb:(c.n - least).toNat<2 ^ width)
 (jM:At s p (if k=1 then bitsOf c.s.size 4++gB 7 c.s.data.toList else bitsOf (c.n - least).toNat width)) :
 dR s k least width p=(c,p+(if k=1 then bitsOf c.s.size 4++gB 7 c.s.data.toList else bitsOf (c.n - least).toNat width).length):=by
 obtain ⟨mC,hf⟩:=hf;rw [aA (by rw [hn];simp)] at hf;unfold dR;by_cases h1:k=1
 . rw [aH h1] at jM ⊢
   rw [aH h1];rw [aA (by omega),aH h1] at hf;rw [At.append,bk] at jM;have e:=kD jM.1 (by omega) (by have:=hf.2.1;omega);rw [e];have hs:=Cn (s:=s) (u:=p+4) (wd:=7) c.s.data.toList (by omega) (λb hb=>by have:=(hf.2.2 b hb).2.1;omega) c.s.size (by rw [eU];omega)
    (by rw [aP (by rw [eU];omega)];exact jM.2)
   rw [aP (by rw [eU];omega)] at hs;rw [hs];simp only [List.length_append,bk,ku,eU];refine xl (Cl.ext' hn.symm hf.1.symm rfl) (by show p+4+c.s.size*7=_;omega)
 . rw [aA h1] at jM ⊢
   rw [aA h1];rw [kD jM hw hb,Zs mC hl,bk];have Og:c.s=ByteArray.empty:=by
    by_cases QK:k=0
    . rw [aH QK] at hf;exact hf
    . rw [aA QK,aA h1] at hf
      by_cases nQ:k=2
      . rw [aH nQ] at hf;exact hf.1
      . rw [aA nQ] at hf;exact hf.elim
   exact xl (Cl.ext' hn.symm rfl Og.symm) rfl
theorem GY {s:ByteArray}{cE:Bool}{k least:Int}{width p:Nat}{c:Cl}(hf:vl k c)(UL:cE=false->c.null=false)(hw:width<=64)(hl:c.null=false->least<=c.n/\(c.n - least).toNat<2 ^ width)
 (jM:At s p (ec cE k least width c)):ew s cE k least width p=(c,p+(ec cE k least width c).length):=by
 unfold ec at jM ⊢;unfold ew
 cases cE
 . have hn:=UL rfl
   have NW:¬c.null=true:=by rw [hn];simp
   simp only [Bool.false_eq_true,if_false,List.nil_append] at jM ⊢;rw [aA NW] at jM ⊢;exact yq hf hn hw (hl hn).1 (hl hn).2 jM
 . simp only [if_true] at jM ⊢
   rw [At.append] at jM;have h0:qh s p=c.null:=by
    have:=jM.1 0 (by simp);simpa using this
   cases hn:c.null
   . have NW:¬c.null=true:=by rw [hn];simp
     have h2:=jM.2;rw [aA NW] at h2;rw [h0,hn];simp only [Bool.false_eq_true,if_false];have:=yq (s:=s) (p:=p+1) hf hn hw (hl hn).1 (hl hn).2 (by simpa using h2);rw [this,au];simp only [List.length_cons,List.length_nil];rw [gR]
   . rw [h0,hn]
     have LA:=hf.2;rw [aH hn] at LA;simp only [if_true,List.append_nil,List.length_cons,List.length_nil];exact xl (Cl.ext' hn.symm LA.1.symm LA.2.symm) rfl
theorem EH {s:ByteArray}{cE:Bool}{k least:Int}{width p:Nat}{cs:List Cl}(hf:∀c∈cs,vl k c)(UL:cE=false->∀c∈cs,c.null=false)(hw:width<=64)
 (hl:∀c∈cs,c.null=false->least<=c.n/\(c.n - least).toNat<2 ^ width) :
 ∀i,i<=cs.length->At s p (dT cE k least width (cs.take i))->dE s cE k least width p i=(cs.take i,p+(dT cE k least width (cs.take i)).length):=by
 intro i
 induction i with
 |zero=>intro _ _;simp [dE,dT]
 |succ i ih=>
   intro hi jM;have hc:cs[i]?=some cs[i]:=ah (by omega);have hm:=fG (show i<cs.length by omega);rw [dF hc,gD,At.append] at jM;have h1:=ih (by omega) jM.1;have h2:=GY (hf _ hm) (λh=>UL h _ hm) hw (hl _ hm) jM.2;rw [dE,h1,dF hc,gD];simp only [h2,List.length_append];rw [gR]
theorem OG {s:ByteArray}{k:Int}{u:Nat}{cs:List Cl}(hf:∀c∈cs,vl k c)(jM:At s u (ur k cs)):xt s k u cs.length=cs:=by
 have mC:=xo (λc h=>(hf c h).1);have hli:=qU mC;have DI:=DG mC;have hw:=lu DI;unfold ur at jM;rw [At.append,At.append] at jM;obtain ⟨⟨h1,h2⟩,h3⟩:=jM;have h0:qh s u=cs.any λc=>c.null:=by
  have:=h1 0 (by simp);simpa using this
 have hfr:nX s k (u+1)=if k=1 then (0,0,u+1) else (leastOf (dr cs),bitLen (lW (dr cs)),u+1+(nC (leastOf (dr cs))++bitsOf (bitLen (lW (dr cs))) 7).length):=by
  unfold nX;by_cases hk:k=1
  . rw [aH hk,aH hk]
  . rw [aA hk,aA hk]
    rw [aA hk] at h2;simp only [List.length_cons,List.length_nil,Nat.zero_add] at h2;rw [At.append] at h2;have Ev:vl 0 ⟨false,leastOf (dr cs),ByteArray.empty⟩:=⟨hli,by simp⟩;have e0:jC 0 ⟨false,leastOf (dr cs),ByteArray.empty⟩=nC (leastOf (dr cs)):=by simp [jC]
    have e1:=JG (s:=s) (u:=u+1) Ev (by rw [e0];exact h2.1);rw [e0] at e1;rw [e1];simp only;rw [kD h2.2 (by omega) (by have:(2:Nat) ^ 7=128:=(by decide);omega),au,bk,gR (u+1)]
 have UL:(cs.any λc=>c.null)=false->∀c∈cs,c.null=false:=by
  intro h c hc;have:=kJ.1 h c hc;simpa using this
 have hl:∀c∈cs,c.null=false->leastOf (dr cs)<=c.n/\(c.n - leastOf (dr cs)).toNat<2 ^ bitLen (lW (dr cs)):=by
  intro c hc hn;have hm:=Lx hc hn;have g1:=Ei hm;have g2:=On hm;refine ⟨g1,cW ?_ (Bm _)⟩;unfold lW;omega
 unfold xt;rw [h0,hfr];by_cases hk:k=1
 . rw [aH hk]
   rw [aH hk] at h3;simp only [List.append_nil,List.length_cons,List.length_nil,Nat.zero_add] at h3;have e:∀least width,dT (cs.any λc=>c.null) k least width cs=dT (cs.any λc=>c.null) k 0 0 cs:=by
    intro least width;unfold dT;congr 1
    funext c;unfold ec;simp only [if_pos hk]
   rw [e] at h3;have NY:∀c∈cs,c.null=false->(0:Int)<=c.n/\(c.n - 0).toNat<2 ^ 0:=by
    intro c hc hn;have:=(hf c hc).2;rw [aA (by rw [hn];simp),aA (by omega),aH hk] at this;rw [this.1];simp
   have:=EH (s:=s) (p:=u+1) hf UL (by omega) NY cs.length (af _) (by rw [aP (af _)];exact h3);rw [aP (af _)] at this;simp only [this]
 . rw [aA hk]
   rw [aA hk] at h3;rw [au,aY,cz,eP,<- gR] at h3;have:=EH (s:=s) (p:=u+1+(nC (leastOf (dr cs))++bitsOf (bitLen (lW (dr cs))) 7).length) hf UL hw hl cs.length (af _) (by rw [aP (af _)];exact h3);rw [aP (af _)] at this;simp only [this]
theorem OH {bs:List Nat}{p k:Int}{cs:List Cl}(qi:Lays bs (gi p k cs))(NU:0<=p)(hp3:p<=3)(QK:0<=k)(nQ:k<=2)(hn:cs.length<=64)(mC:∀c∈cs,bZ c.n)(kT:cs.all (okB k)=true) :
 ((rd (strOf bs) 0 8:Nat):Int)=p/\((rd (strOf bs) 8 8:Nat):Int)=k/\rd (strOf bs) 16 8=cs.length/\gI (strOf bs) p k 24 cs.length=cs/\Good (strOf bs):=by
 have hf:∀c∈cs,vl k c:=λc h=>vZ (mC c h) (gH.1 kT c h);have jM:=qi.at (strOf bs) (OB qi.small);unfold gi at jM;rw [At.append,At.append,At.append] at jM;simp only [List.length_append,bk,Nat.zero_add] at jM;obtain ⟨⟨⟨h1,h2⟩,h3⟩,h4⟩:=jM;have e1:=kD h1 (by omega) (by omega);have e2:=kD h2 (by omega) (by omega);have e3:=kD h3 (by omega) (by omega);have e1':((rd (strOf bs) 0 8:Nat):Int)=p:=by rw [e1];omega
 have e2':((rd (strOf bs) 8 8:Nat):Int)=k:=by rw [e2];omega
 have e4:gI (strOf bs) p k 24 cs.length=cs:=by
  unfold gI;unfold body at h4;by_cases p1:p=1
  . rw [aH p1] at h4 ⊢
    have:=OD (s:=strOf bs) (k:=k) (n:=cs.length) cs.length [] cs 24 hf (by simp) (af _) (by omega) h4;exact this
  . rw [aA p1] at h4 ⊢
    by_cases p2:p=2
    . rw [aH p2] at h4 ⊢
      exact OE hf hn h4
    . rw [aA p2] at h4 ⊢
      by_cases p3:p=3
      . rw [aH p3] at h4 ⊢
        exact OG hf h4
      . rw [aA p3] at h4 ⊢
        have:=plain_round (s:=strOf bs) (k:=k) (u:=24) hf cs.length (af _) (by rw [aP (af _)];exact h4);rw [aP (af _)] at this;rw [this]
 refine ⟨e1',e2',e3,e4,?_⟩;unfold Good;rw [e1',e2',e3,e4];refine ⟨hn,?_,bs,qi,rfl⟩;unfold nE;rw [kT];simp;omega
end S
namespace S
theorem xw {w:World}{base n:Nat}{a:Option Addr}{cap:Nat}{cs:List Cl}(h:w.ownsRow base 214 3 (.slice a n cap) n (bw cs)):∃g,(0<cs.length->a=some ⟨g,0,none⟩)/\gT w g 0 cs:=by
 have hl:cs.length=n:=by have:=h.1;rw [qV] at this;omega
 by_cases hn:0<n
 . obtain ⟨a',vF,hv,hg,_⟩:=kN h
   obtain ⟨g,rfl⟩:=hg hn;simp only [Value.slice.injEq] at hv;obtain ⟨rfl,-,rfl⟩:=hv;exact ⟨g,λ_=>rfl,xp h⟩
 . refine ⟨0,λh=>by omega,λi c hc=>?_⟩
   have:=(ak.1 hc).1;omega
theorem OI (s:ByteArray)(w:World)(hs:s.size<=140737488351232) :
 Calls Tryz.prog 117 #[.string s] w λe w'=>((Good s/\∃v,e=.returned (.tuple #[.int .i64 (rd s 8 8:Int),v,.int .i64 0])/\w'.ownsRow w.heap.size 214 3 v (rd s 16 8) (bw (gI s (rd s 0 8:Int) (rd s 8 8:Int) 24 (rd s 16 8))))\/
  (¬Good s/\e=.returned (.tuple #[.int .i64 0,.slice none 0 0,.int .i64 2])))/\Below w.heap.size w w':=by
 have NZ:=hide (show Good s↔(rd s 16 8<=64/\nE (rd s 0 8:Int) (rd s 8 8:Int) (gI s (rd s 0 8:Int) (rd s 8 8:Int) 24 (rd s 16 8))=true/\∃bs,Lays bs (gi (rd s 0 8:Int) (rd s 8 8:Int) (gI s (rd s 0 8:Int) (rd s 8 8:Int) 24 (rd s 16 8)))/\strOf bs=s) from Iff.rfl);have hp8:=je s 0 8;have hk8:=je s 8 8;have hn8:=je s 16 8;have UH:(2:Nat) ^ 8=256:=by decide
 have ZA:ud (w.alloc (.cells #[.string s,.int .i64 0] 261)) w.heap.size s 0:=
  ⟨by rw [bK _ _ _ _ rfl];rfl,by rw [bK _ _ _ _ rfl];rfl,ib _ _ _ _ rfl⟩
 have GU:=hide ZA;clear ZA;go_enter Tryz.func117,Tryz.ntmps117;go_wp2_with fail;refine (lB w.heap.size s 0 _ _ (ae GU) hs (by omega) (by rw [show Int.toNat 8=8 from rfl];omega)).mono ?_;rintro e w2 ⟨rfl,h4,h5⟩;rw [show Int.toNat 8=8 from rfl] at *;have xY:=hide h4;have HG2:=hide ((bP w (.cells #[.string s,.int .i64 0] 261) (some w.heap.size)).trans h5);clear h4 h5;generalize hPN:rd s 0 8=pn at *;have HPN:=hide hPN;clear hPN;have hpn:pn<256:=by omega
 go_wp2_with fail;refine (lB w.heap.size s (0+8) _ _ (ae xY) hs (by omega) (by rw [show Int.toNat 8=8 from rfl];omega)).mono ?_;rintro e w3 ⟨rfl,h4,h5⟩;rw [show Int.toNat 8=8 from rfl,show 0+8=8 from rfl] at *;have UM:=hide h4;have UI:=hide ((ae HG2).trans h5);clear h4 h5;generalize hKN:rd s 8 8=kn at *;have Lw:=hide hKN;clear hKN;have yG:kn<256:=by omega
 go_wp2_with fail;refine (lB w.heap.size s (8+8) _ _ (ae UM) hs (by omega) (by rw [show Int.toNat 8=8 from rfl];omega)).mono ?_;rintro e w4 ⟨rfl,h4,h5⟩;rw [show Int.toNat 8=8 from rfl,show 8+8=16 from rfl,show 16+8=24 from rfl] at *;have HR4:=hide h4;have YA:=hide ((ae UI).trans h5);clear h4 h5;generalize hNN:rd s 16 8=n at *;have ZB:=hide hNN;clear hNN;have hn:n<=255:=by omega
 clear hp8 hk8 hn8 UH;go_wp2_with fail;refine (zP _ w4).mono ?_;rintro e w5 ⟨rfl,rfl⟩;by_cases p1:(pn:Int)=1
 . rw [aH p1]
   have P1:=hide p1;clear p1;have hm:=Tryz.ac3;simp [fO,Tryz.underlying265] at hm;go_wp2_with fail;refine (JX w.heap.size s 24 (kn:Int) n w4 (ae HR4) hs hn (by omega)).mono ?_;rintro e w5 ⟨v,rfl,br,zG⟩;have hcs:DM s (kn:Int) 24 n=gI s (pn:Int) (kn:Int) 24 n:=by unfold gI;rw [aH (ae P1)]
   rw [hcs] at br;clear hm hcs;have hg:=(ae YA).trans zG;have mD:=qC s (pn:Int) (kn:Int) 24 n;have xW:=oG s (pn:Int) (kn:Int) 24 n;generalize Vy:gI s (pn:Int) (kn:Int) 24 n=cs at *;have ZC:=hide Vy;clear Vy;have kd:w.heap.size<=w5.heap.size:=hg.size;have kU:Below w.heap.size w w5:=⟨hg.os,hg.tape,hg.output,hg.size,λj hj=>hg.block j hj (by simp;omega)⟩;have gS:=cL br (show w.heap.size<=w4.heap.size from (ae YA).size);obtain ⟨va,cJ,rfl,Eu,Yw⟩:=kN gS;obtain ⟨g,zR,lL⟩:=xw gS;subst xW;have lX:=hide gS;have vR:=hide kU;clear br gS hg zG kU Eu;have mC:∀c∈cs,bZ c.n:=λc h=>(mD c h).1;have hsl:∀c∈cs,c.s.size<=140737488351232:=λc h=>by have:=(mD c h).2;omega
   by_cases hlen:cs.length<=64
   . cases kW:nE (pn:Int) (kn:Int) cs
     . have EI:Hid (¬Good s):=hide (λh=>by have:=((ae NZ).1 h).2.1;rw [kW] at this;cases this)
       have HP:=hide (xv (pn:Int) (kn:Int) cs va g 0 cJ w5 zR lL hlen hsl kW);clear kW lL zR mD mC hsl;go_wp2_with fail;refine (ae HP).mono ?_;rintro e w6 ⟨rfl,h6⟩;have vS:=hide ((ae vR).trans (h6.mono kd));clear h6;go_wp2;go_ret3;exact ⟨.inr ⟨ae EI,rfl⟩,ae vS⟩
     . have mE:=kW
       unfold nE at mE;simp only [Bool.and_eq_true,decide_eq_true_eq] at mE;have HP:=hide (sZ (pn:Int) (kn:Int) cs va g 0 cJ w5 zR lL Yw hlen mC hsl mE.1.1 mE.1.2 mE.2.1.1 mE.2.1.2 mE.2.2);have R9:=hide kW;clear kW mE lL zR mD mC hsl;go_wp2_with fail;refine (ae HP).mono ?_;rintro e w6 ⟨⟨bs,qi,rfl⟩,h6⟩;have vS:=hide ((ae vR).trans (h6.mono kd));have Vx:=hide ((ae lX).kept (gA h6) (by cases (Value.slice va cs.length cJ).ownBlock<;>simp));have Bt:=hide qi;clear h6 qi;by_cases heq:strOf bs=s
       . have EJ:Hid (Good s):=hide ((ae NZ).2 ⟨hlen,ae R9,bs,ae Bt,heq⟩)
         have J5:((strOf bs).toList==s.toList)=true:=by rw [heq];simp
         clear heq;go_wp2;go_ret3;refine ⟨.inl ⟨ae EJ,_,by rw [ae Lw];rfl,?_⟩,ae vS⟩;rw [ae HPN,ae Lw,ae ZB,ae ZC];exact ae Vx
       . have EI:Hid (¬Good s):=hide (λh=>by
          obtain ⟨bs',zS,zT⟩:=((ae NZ).1 h).2.2;exact heq (by rw [(ae Bt).unique zS];exact zT))
         have J5:((strOf bs).toList==s.toList)=false:=by
          rw [aj];intro h;rw [cZ,cZ] at h;exact heq (by cases hx:strOf bs;cases hy:s;rw [hx,hy] at h;congr 1;exact iK.1 h)
         clear heq;go_wp2;go_ret3;exact ⟨.inr ⟨ae EI,rfl⟩,ae vS⟩
   . have EI:Hid (¬Good s):=hide (λh=>hlen ((ae NZ).1 h).1)
     have HP:=hide (xu (pn:Int) (kn:Int) cs.length va cJ w5 (by omega) (by omega));clear lL zR mD mC hsl;go_wp2_with fail;refine (ae HP).mono ?_;rintro e w6 ⟨rfl,rfl⟩;go_wp2;go_ret3;exact ⟨.inr ⟨ae EI,rfl⟩,ae vR⟩
 . rw [aA p1]
   have P1:=hide p1;clear p1;by_cases p2:(pn:Int)=2
   . rw [aH p2]
     have P2:=hide p2;clear p2;have hm:=Tryz.ac4;simp [fO,Tryz.underlying265] at hm;go_wp2_with fail;refine (JY w.heap.size s 24 (kn:Int) n w4 (ae HR4) hs hn (by omega)).mono ?_;rintro e w5 ⟨v,rfl,br,zG⟩;have hcs:xr s (kn:Int) 24 n=gI s (pn:Int) (kn:Int) 24 n:=by unfold gI;rw [aA (ae P1),aH (ae P2)]
     rw [hcs] at br;clear hm hcs;have hg:=(ae YA).trans zG;have mD:=qC s (pn:Int) (kn:Int) 24 n;have xW:=oG s (pn:Int) (kn:Int) 24 n;generalize Vy:gI s (pn:Int) (kn:Int) 24 n=cs at *;have ZC:=hide Vy;clear Vy;have kd:w.heap.size<=w5.heap.size:=hg.size;have kU:Below w.heap.size w w5:=⟨hg.os,hg.tape,hg.output,hg.size,λj hj=>hg.block j hj (by simp;omega)⟩;have gS:=cL br (show w.heap.size<=w4.heap.size from (ae YA).size);obtain ⟨va,cJ,rfl,Eu,Yw⟩:=kN gS;obtain ⟨g,zR,lL⟩:=xw gS;subst xW;have lX:=hide gS;have vR:=hide kU;clear br gS hg zG kU Eu;have mC:∀c∈cs,bZ c.n:=λc h=>(mD c h).1;have hsl:∀c∈cs,c.s.size<=140737488351232:=λc h=>by have:=(mD c h).2;omega
     by_cases hlen:cs.length<=64
     . cases kW:nE (pn:Int) (kn:Int) cs
       . have EI:Hid (¬Good s):=hide (λh=>by have:=((ae NZ).1 h).2.1;rw [kW] at this;cases this)
         have HP:=hide (xv (pn:Int) (kn:Int) cs va g 0 cJ w5 zR lL hlen hsl kW);clear kW lL zR mD mC hsl;go_wp2_with fail;refine (ae HP).mono ?_;rintro e w6 ⟨rfl,h6⟩;have vS:=hide ((ae vR).trans (h6.mono kd));clear h6;go_wp2;go_ret3;exact ⟨.inr ⟨ae EI,rfl⟩,ae vS⟩
       . have mE:=kW
         unfold nE at mE;simp only [Bool.and_eq_true,decide_eq_true_eq] at mE;have HP:=hide (sZ (pn:Int) (kn:Int) cs va g 0 cJ w5 zR lL Yw hlen mC hsl mE.1.1 mE.1.2 mE.2.1.1 mE.2.1.2 mE.2.2);have R9:=hide kW;clear kW mE lL zR mD mC hsl;go_wp2_with fail;refine (ae HP).mono ?_;rintro e w6 ⟨⟨bs,qi,rfl⟩,h6⟩;have vS:=hide ((ae vR).trans (h6.mono kd));have Vx:=hide ((ae lX).kept (gA h6) (by cases (Value.slice va cs.length cJ).ownBlock<;>simp));have Bt:=hide qi;clear h6 qi;by_cases heq:strOf bs=s
         . have EJ:Hid (Good s):=hide ((ae NZ).2 ⟨hlen,ae R9,bs,ae Bt,heq⟩)
           have J5:((strOf bs).toList==s.toList)=true:=by rw [heq];simp
           clear heq;go_wp2;go_ret3;refine ⟨.inl ⟨ae EJ,_,by rw [ae Lw];rfl,?_⟩,ae vS⟩;rw [ae HPN,ae Lw,ae ZB,ae ZC];exact ae Vx
         . have EI:Hid (¬Good s):=hide (λh=>by
            obtain ⟨bs',zS,zT⟩:=((ae NZ).1 h).2.2;exact heq (by rw [(ae Bt).unique zS];exact zT))
           have J5:((strOf bs).toList==s.toList)=false:=by
            rw [aj];intro h;rw [cZ,cZ] at h;exact heq (by cases hx:strOf bs;cases hy:s;rw [hx,hy] at h;congr 1;exact iK.1 h)
           clear heq;go_wp2;go_ret3;exact ⟨.inr ⟨ae EI,rfl⟩,ae vS⟩
     . have EI:Hid (¬Good s):=hide (λh=>hlen ((ae NZ).1 h).1)
       have HP:=hide (xu (pn:Int) (kn:Int) cs.length va cJ w5 (by omega) (by omega));clear lL zR mD mC hsl;go_wp2_with fail;refine (ae HP).mono ?_;rintro e w6 ⟨rfl,rfl⟩;go_wp2;go_ret3;exact ⟨.inr ⟨ae EI,rfl⟩,ae vR⟩
   . rw [aA p2]
     have P2:=hide p2;clear p2;by_cases p3:(pn:Int)=3
     . rw [aH p3]
       have P3:=hide p3;clear p3;have hm:=Tryz.ac5;simp [fO,Tryz.underlying265] at hm;go_wp2_with fail;refine (J0 w.heap.size s 24 (kn:Int) n w4 (ae HR4) hs hn (by omega)).mono ?_;rintro e w5 ⟨v,rfl,br,zG⟩;have hcs:xt s (kn:Int) 24 n=gI s (pn:Int) (kn:Int) 24 n:=by unfold gI;rw [aA (ae P1),aA (ae P2),aH (ae P3)]
       rw [hcs] at br;clear hm hcs;have hg:=(ae YA).trans zG;have mD:=qC s (pn:Int) (kn:Int) 24 n;have xW:=oG s (pn:Int) (kn:Int) 24 n;generalize Vy:gI s (pn:Int) (kn:Int) 24 n=cs at *;have ZC:=hide Vy;clear Vy;have kd:w.heap.size<=w5.heap.size:=hg.size;have kU:Below w.heap.size w w5:=⟨hg.os,hg.tape,hg.output,hg.size,λj hj=>hg.block j hj (by simp;omega)⟩;have gS:=cL br (show w.heap.size<=w4.heap.size from (ae YA).size);obtain ⟨va,cJ,rfl,Eu,Yw⟩:=kN gS;obtain ⟨g,zR,lL⟩:=xw gS;subst xW;have lX:=hide gS;have vR:=hide kU;clear br gS hg zG kU Eu;have mC:∀c∈cs,bZ c.n:=λc h=>(mD c h).1;have hsl:∀c∈cs,c.s.size<=140737488351232:=λc h=>by have:=(mD c h).2;omega
       by_cases hlen:cs.length<=64
       . cases kW:nE (pn:Int) (kn:Int) cs
         . have EI:Hid (¬Good s):=hide (λh=>by have:=((ae NZ).1 h).2.1;rw [kW] at this;cases this)
           have HP:=hide (xv (pn:Int) (kn:Int) cs va g 0 cJ w5 zR lL hlen hsl kW);clear kW lL zR mD mC hsl;go_wp2_with fail;refine (ae HP).mono ?_;rintro e w6 ⟨rfl,h6⟩;have vS:=hide ((ae vR).trans (h6.mono kd));clear h6;go_wp2;go_ret3;exact ⟨.inr ⟨ae EI,rfl⟩,ae vS⟩
         . have mE:=kW
           unfold nE at mE;simp only [Bool.and_eq_true,decide_eq_true_eq] at mE;have HP:=hide (sZ (pn:Int) (kn:Int) cs va g 0 cJ w5 zR lL Yw hlen mC hsl mE.1.1 mE.1.2 mE.2.1.1 mE.2.1.2 mE.2.2);have R9:=hide kW;clear kW mE lL zR mD mC hsl;go_wp2_with fail;refine (ae HP).mono ?_;rintro e w6 ⟨⟨bs,qi,rfl⟩,h6⟩;have vS:=hide ((ae vR).trans (h6.mono kd));have Vx:=hide ((ae lX).kept (gA h6) (by cases (Value.slice va cs.length cJ).ownBlock<;>simp));have Bt:=hide qi;clear h6 qi;by_cases heq:strOf bs=s
           . have EJ:Hid (Good s):=hide ((ae NZ).2 ⟨hlen,ae R9,bs,ae Bt,heq⟩)
             have J5:((strOf bs).toList==s.toList)=true:=by rw [heq];simp
             clear heq;go_wp2;go_ret3;refine ⟨.inl ⟨ae EJ,_,by rw [ae Lw];rfl,?_⟩,ae vS⟩;rw [ae HPN,ae Lw,ae ZB,ae ZC];exact ae Vx
           . have EI:Hid (¬Good s):=hide (λh=>by
              obtain ⟨bs',zS,zT⟩:=((ae NZ).1 h).2.2;exact heq (by rw [(ae Bt).unique zS];exact zT))
             have J5:((strOf bs).toList==s.toList)=false:=by
              rw [aj];intro h;rw [cZ,cZ] at h;exact heq (by cases hx:strOf bs;cases hy:s;rw [hx,hy] at h;congr 1;exact iK.1 h)
             clear heq;go_wp2;go_ret3;exact ⟨.inr ⟨ae EI,rfl⟩,ae vS⟩
       . have EI:Hid (¬Good s):=hide (λh=>hlen ((ae NZ).1 h).1)
         have HP:=hide (xu (pn:Int) (kn:Int) cs.length va cJ w5 (by omega) (by omega));clear lL zR mD mC hsl;go_wp2_with fail;refine (ae HP).mono ?_;rintro e w6 ⟨rfl,rfl⟩;go_wp2;go_ret3;exact ⟨.inr ⟨ae EI,rfl⟩,ae vR⟩
     . rw [aA p3]
       have P3:=hide p3;clear p3;have hm:=Tryz.ac6;simp [fO,Tryz.underlying265] at hm;go_wp2_with fail;refine (GR w.heap.size s 24 (kn:Int) n w4 (ae HR4) hs hn (by omega)).mono ?_;rintro e w5 ⟨v,rfl,br,zG⟩;have hcs:(j6 s (kn:Int) 24 n).1=gI s (pn:Int) (kn:Int) 24 n:=by unfold gI;rw [aA (ae P1),aA (ae P2),aA (ae P3)]
       rw [hcs] at br;clear hm hcs;have hg:=(ae YA).trans zG;have mD:=qC s (pn:Int) (kn:Int) 24 n;have xW:=oG s (pn:Int) (kn:Int) 24 n;generalize Vy:gI s (pn:Int) (kn:Int) 24 n=cs at *;have ZC:=hide Vy;clear Vy;have kd:w.heap.size<=w5.heap.size:=hg.size;have kU:Below w.heap.size w w5:=⟨hg.os,hg.tape,hg.output,hg.size,λj hj=>hg.block j hj (by simp;omega)⟩;have gS:=cL br (show w.heap.size<=w4.heap.size from (ae YA).size);obtain ⟨va,cJ,rfl,Eu,Yw⟩:=kN gS;obtain ⟨g,zR,lL⟩:=xw gS;subst xW;have lX:=hide gS;have vR:=hide kU;clear br gS hg zG kU Eu;have mC:∀c∈cs,bZ c.n:=λc h=>(mD c h).1;have hsl:∀c∈cs,c.s.size<=140737488351232:=λc h=>by have:=(mD c h).2;omega
       by_cases hlen:cs.length<=64
       . cases kW:nE (pn:Int) (kn:Int) cs
         . have EI:Hid (¬Good s):=hide (λh=>by have:=((ae NZ).1 h).2.1;rw [kW] at this;cases this)
           have HP:=hide (xv (pn:Int) (kn:Int) cs va g 0 cJ w5 zR lL hlen hsl kW);clear kW lL zR mD mC hsl;go_wp2_with fail;refine (ae HP).mono ?_;rintro e w6 ⟨rfl,h6⟩;have vS:=hide ((ae vR).trans (h6.mono kd));clear h6;go_wp2;go_ret3;exact ⟨.inr ⟨ae EI,rfl⟩,ae vS⟩
         . have mE:=kW
           unfold nE at mE;simp only [Bool.and_eq_true,decide_eq_true_eq] at mE;have HP:=hide (sZ (pn:Int) (kn:Int) cs va g 0 cJ w5 zR lL Yw hlen mC hsl mE.1.1 mE.1.2 mE.2.1.1 mE.2.1.2 mE.2.2);have R9:=hide kW;clear kW mE lL zR mD mC hsl;go_wp2_with fail;refine (ae HP).mono ?_;rintro e w6 ⟨⟨bs,qi,rfl⟩,h6⟩;have vS:=hide ((ae vR).trans (h6.mono kd));have Vx:=hide ((ae lX).kept (gA h6) (by cases (Value.slice va cs.length cJ).ownBlock<;>simp));have Bt:=hide qi;clear h6 qi;by_cases heq:strOf bs=s
           . have EJ:Hid (Good s):=hide ((ae NZ).2 ⟨hlen,ae R9,bs,ae Bt,heq⟩)
             have J5:((strOf bs).toList==s.toList)=true:=by rw [heq];simp
             clear heq;go_wp2;go_ret3;refine ⟨.inl ⟨ae EJ,_,by rw [ae Lw];rfl,?_⟩,ae vS⟩;rw [ae HPN,ae Lw,ae ZB,ae ZC];exact ae Vx
           . have EI:Hid (¬Good s):=hide (λh=>by
              obtain ⟨bs',zS,zT⟩:=((ae NZ).1 h).2.2;exact heq (by rw [(ae Bt).unique zS];exact zT))
             have J5:((strOf bs).toList==s.toList)=false:=by
              rw [aj];intro h;rw [cZ,cZ] at h;exact heq (by cases hx:strOf bs;cases hy:s;rw [hx,hy] at h;congr 1;exact iK.1 h)
             clear heq;go_wp2;go_ret3;exact ⟨.inr ⟨ae EI,rfl⟩,ae vS⟩
       . have EI:Hid (¬Good s):=hide (λh=>hlen ((ae NZ).1 h).1)
         have HP:=hide (xu (pn:Int) (kn:Int) cs.length va cJ w5 (by omega) (by omega));clear lL zR mD mC hsl;go_wp2_with fail;refine (ae HP).mono ?_;rintro e w6 ⟨rfl,rfl⟩;go_wp2;go_ret3;exact ⟨.inr ⟨ae EI,rfl⟩,ae vR⟩
end S
end Go.Proofs.YteniahoehoncjaaGreatDoor
