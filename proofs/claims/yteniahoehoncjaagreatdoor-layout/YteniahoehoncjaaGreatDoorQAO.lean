import Derived.Test.YteniahoehoncjaaGreatDoorQAL
import Derived.Test.YteniahoehoncjaaGreatDoorQAM
set_option maxHeartbeats 99999999
set_option maxRecDepth 100000
namespace Go.Proofs.YteniahoehoncjaaGreatDoor
open Go.RowKit
namespace S
theorem jT (K:Nat->Prop)(p:Nat)(l:List Bool)(v wd:Int)(w:World)(hw:Writer K w p l)(h0:0<=v)(hv:v<18446744073709551616)(h1:0<=wd)(hb:l.length+wd.toNat<=1099511627776) :
 Calls Tryz.prog 157 #[.pointer (some ⟨p,0,none⟩),.int .u64 v,.int .i64 wd] w λe w'=>e=.returned (.tuple #[])/\Writer K w' p (l++bitsOf v.toNat wd.toNat)/\aQ K w w':=by
 obtain ⟨v,rfl⟩:=gG h0;obtain ⟨wd,rfl⟩:=gG h1;rw [aZ,aZ];exact Zc K p l v wd w hw (by omega) (by simpa using hb)
theorem Vk (n:Int)(w:World)(h:bZ n):Calls Tryz.prog 300 #[.int .i64 n] w λe w'=>e=.returned (.int .u64 (qS n:Int))/\w=w':=by
 have hh:=h;unfold bZ at h;obtain ⟨ha,hb⟩:=h;by_cases hn:n<0
 . go_enter Tryz.func300,Tryz.ntmps300
   go_wp2;go_ret;exact ⟨aU Ending.returned (aU (Value.int IntKind.u64) (Vh n hh (by omega))),rfl⟩
 . go_enter Tryz.func300,Tryz.ntmps300
   go_wp2;go_ret;exact ⟨aU Ending.returned (aU (Value.int IntKind.u64) (by unfold qS;rw [aA (by omega)];omega)),rfl⟩
theorem vW (K:Nat->Prop)(p:Nat)(l:List Bool)(b:Bool)(w:World)(hw:Writer K w p l)(hb:l.length+1<=1099511627776) :
 Calls Tryz.prog 307 #[.pointer (some ⟨p,0,none⟩),.bool b] w λe w'=>e=.returned (.tuple #[])/\Writer K w' p (l++[b])/\aQ K w w':=by
 have HW:=hide hw;clear hw
 cases b
 . go_enter Tryz.func307,Tryz.ntmps307
   go_wp2_with (go_at_call 157;refine (jT K p l _ _ _ (ae HW) (by omega) (by omega) (by omega) (by simpa using hb)).mono ?_;rintro e w' ⟨rfl,h1,h2⟩);go_end0;exact ⟨rfl,h1,h2⟩
 . go_enter Tryz.func307,Tryz.ntmps307
   go_wp2_with (go_at_call 157;refine (jT K p l _ _ _ (ae HW) (by omega) (by omega) (by omega) (by simpa using hb)).mono ?_;rintro e w' ⟨rfl,h1,h2⟩);go_end0;exact ⟨rfl,h1,h2⟩
theorem sD (K:Nat->Prop)(p:Nat)(l:List Bool)(s:ByteArray)(wd:Int)(w:World)(hw:Writer K w p l)(h0:0<=wd)(h1:wd<=64)(hs:s.size<=1000)(hb:l.length<=549755813888) :
 Calls Tryz.prog 298 #[.pointer (some ⟨p,0,none⟩),.string s,.int .i64 wd] w λe w'=>e=.returned (.tuple #[])/\Writer K w' p (l++gB wd.toNat s.data.toList)/\aQ K w w':=by
 obtain ⟨wd,rfl⟩:=gG h0;rw [aZ];go_enter Tryz.func298,Tryz.ntmps298;go_wp2;go_loopw [9] (λc wr=>∃k:Nat,k<=s.size/\c=.int .i64 k/\Writer K wr p (l++gB wd (s.data.toList.take k))/\aQ K w wr) (λc _=>s.size - (intOf c).toNat)
 case atStart=>exact ⟨0,aN _,rfl,by simpa [gB] using hw,aQ.refl _ _⟩
 case round=>
  obtain ⟨k,hk,rfl,uf,vm⟩:=hrel;have HW:=hide uf;have HK:=hide vm;clear hw uf vm;by_cases cF:k<s.size
  . have jI:(k:Int)<(s.size:Int):=by omega
    go_wp2_with fail;have hlen:(l++gB wd (s.data.toList.take k)).length<=549755813888+64000:=by
     rw [au,ku,bV];have:min k s.data.toList.length*wd<=1000*64:=mO (by omega) (by omega);omega
    rw [GB];refine (jT K p _ _ _ _ (ae HW) (by omega) (by have:=oU s[k];omega) (by omega) (by rw [aZ];omega)).mono ?_;rintro e w' ⟨rfl,h2,h3⟩;have H2:=hide h2;have H3:=hide h3;clear h2 h3;go_wp2;go_roundw
    case rel=>
     refine ⟨k+1,by omega,by go_num,?_,(ae HK).trans (ae H3)⟩;have h2:=ae H2;simp only [Int.toNat_natCast] at h2;rw [eQ (by rw [eU];omega),yg,<- bh];exact h2
    case measure=>simp [intOf];omega
  . obtain rfl:k=s.size:=by omega
    go_wp2;go_end0;refine ⟨rfl,?_,ae HK⟩;have:=ae HW
    rwa [aP (by rw [eU];omega)] at this
theorem yi (K:Nat->Prop)(p:Nat)(l:List Bool)(n:Int)(w:World)(hw:Writer K w p l)(hn:bZ n)(hb:l.length<=549755813888) :
 Calls Tryz.prog 299 #[.pointer (some ⟨p,0,none⟩),.int .i64 n] w λe w'=>e=.returned (.tuple #[])/\Writer K w' p (l++nC n)/\aQ K w w':=by
 have HW:=hide hw;have HN:=hide hn;clear hw hn;go_enter Tryz.func299,Tryz.ntmps299;go_wp2_with fail;refine (Vk _ _ (ae HN)).mono ?_;rintro e w' ⟨rfl,rfl⟩;have hf:=vV (ae HN);generalize hF:qS n=f at *;have HF:=hide hF;clear hF;go_wp2_with fail;refine (Bn _ _ (by omega) (by omega)).mono ?_;rintro e w' ⟨rfl,rfl⟩;rw [aZ];have hl:=lu hf;generalize hL:bitLen f=m at *;have HL:=hide hL;clear hL;go_wp2_with fail;refine (jT K p l _ _ _ (ae HW) (by omega) (by omega) (by omega) (by rw [show Int.toNat 8=8 from rfl];omega)).mono ?_;rintro e w1 ⟨rfl,h2,h3⟩;have H2:=hide h2;have H3:=hide h3;clear h2 h3;go_wp2_with fail;refine (jT K p _ _ _ _ (ae H2) (by omega) (by omega) (by omega) (by rw [au,bk,aZ];simp;omega)).mono ?_;rintro e w2 ⟨rfl,h4,h5⟩;have H4:=hide h4;have H5:=hide h5;clear h4 h5;go_wp2;go_end0;refine ⟨rfl,?_,(ae H3).trans (ae H5)⟩;have h4:=ae H4;rw [aZ,aZ,bh] at h4;unfold nC;rw [ae HF,ae HL];have e:(((m:Int)+1)).toNat=m+1:=by omega
 rw [e] at h4;exact h4
theorem vX (K:Nat->Prop)(p:Nat)(l:List Bool)(k:Int)(c:Cl)(w:World)(hw:Writer K w p l)(hn:bZ c.n)(hs:c.s.size<=1000)(hb:l.length<=274877906944) :
 Calls Tryz.prog 295 #[.pointer (some ⟨p,0,none⟩),.int .i64 k,.agg #[.bool c.null,.int .i64 c.n,.string c.s]] w λe w'=>e=.returned (.tuple #[])/\Writer K w' p (l++jC k c)/\aQ K w w':=by
 obtain ⟨nl,n,s⟩:=c;simp only at hn hs;have HW:=hide (hw.alloc (.cells #[.bool nl,.int .i64 n,.string s] 214));have HK:=hide ((aQ.refl K w).alloc hw.old (.cells #[.bool nl,.int .i64 n,.string s] 214));have HN:=hide hn;have HA:=hide (hw.also (K':=λb=>K b\/b=w.heap.size) (bP w (.cells #[.bool nl,.int .i64 n,.string s] 214) none) (λb hb=>hb.elim .inl (λe=>.inr (by subst e;simp))));clear hw hn
 cases nl
 . by_cases h1:k=1
   . subst h1
     go_enter Tryz.func295,Tryz.ntmps295;go_wp2_with fail;refine (jT (λb=>K b\/b=w.heap.size) p l _ _ _ (ae HA) (by omega) (by omega) (by omega) (by rw [show Int.toNat 8=8 from rfl];omega)).mono ?_;rintro e w1 ⟨rfl,h2,h3⟩;have hc:w1.cell? ⟨w.heap.size,2,none⟩=some (.string s):=(h3.cell (p:=⟨w.heap.size,2,none⟩) (.inr rfl)).trans (by rw [bK _ _ _ _ rfl];rfl);have H2:=hide h2;have H3:=hide (h3.mono (K':=K) (λb hb=>.inl hb));clear h2 h3;go_wp2_with fail;refine (sD _ p _ s _ _ (ae H2) (by omega) (by omega) hs (by rw [au,bk];simp;omega)).mono ?_;rintro e w2 ⟨rfl,h2,h3⟩;have H4:=hide (h2.less (K':=K) (λb hb=>.inl hb));have H5:=hide (h3.mono (K':=K) (λb hb=>.inl hb));clear h2 h3;go_wp2;go_end0;refine ⟨rfl,?_,((ae HK).trans (ae H3)).trans (ae H5)⟩;have h4:=ae H4;have e1:((s.size:Int)+1).toNat=s.size+1:=by omega
     rw [e1,bh] at h4;exact h4
   . have sT:(k==1)=false:=by rw [aj];exact h1
     have H1:=hide h1;clear h1;go_enter Tryz.func295,Tryz.ntmps295;go_wp2_with fail;refine (yi K p l _ _ (ae HW) (ae HN) (by omega)).mono ?_;rintro e w1 ⟨rfl,h2,h3⟩;have H2:=hide h2;have H3:=hide h3;clear h2 h3;go_wp2;go_end0;refine ⟨rfl,?_,(ae HK).trans (ae H3)⟩;have e:jC k ⟨false,n,s⟩=nC n:=by unfold jC;rw [aA (by simp),aA (ae H1)]
     rw [e];exact ae H2
 . go_enter Tryz.func295,Tryz.ntmps295
   go_wp2_with fail;refine (jT K p l _ _ _ (ae HW) (by omega) (by omega) (by omega) (by rw [show Int.toNat 8=8 from rfl];omega)).mono ?_;rintro e w1 ⟨rfl,h2,h3⟩;have H2:=hide h2;have H3:=hide h3;clear h2 h3;go_wp2;go_end0;exact ⟨rfl,ae H2,(ae HK).trans (ae H3)⟩
end S
end Go.Proofs.YteniahoehoncjaaGreatDoor
