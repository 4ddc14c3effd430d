import Derived.Test.YteniahoehoncjaaGreatDoorQBC
set_option maxHeartbeats 99999999
set_option maxRecDepth 100000
namespace Go.Proofs.YteniahoehoncjaaGreatDoor
open Go.RowKit
theorem Tryz.Yd:(Tryz.prog.info? 156).map (λi=>(i.zero,i.size,i.bytes))=some (some (.agg #[.string ByteArray.empty,.int .i64 0,.string ByteArray.empty,.int .i64 0,.string ByteArray.empty,.int .i64 0,.bool false]),7,80):=by kernel_rfl
theorem JC (m:Mode):(gu m).2.len<=m.len:=by
 have more:∀(f:Nat) (l:List Nm) (q:Mode),(fm Mode.name f l q).2.len<=q.len:=by
  intro f
  induction f with
  |zero=>intro l q;exact af _
  |succ f ih=>
    intro l q;rw [fm];split
    . exact aw (ih _ _) (aw (cP q.next) bG)
    . exact af _
 exact aw (more _ _ _) (cP m)
def xd (m:Mode):List Nm×Mode:=match m.tk with
 |.name _=>gu m
 |_=>([],m)
theorem ajx {m:Mode}{k:Nat}{t:ByteArray}{j:Int}{e:Nat}(h:m.alive->lN k t j m.tk)(he:(m.alive/\((e:Int)==0)=true)\/(¬m.alive/\((e:Int)==0)=false)) :
 (((e:Int)==0)=true/\((k:Int)==97)=true/\(xd m).2=(gu m).2)\/(((e:Int)==0)=true/\((k:Int)==97)=false/\(xd m).2=m)\/(((e:Int)==0)=false/\(xd m).2=m):=by
 rcases he with ⟨ha,he⟩|⟨ha,he⟩
 . have ht:=h ha
   cases m with
   |dead _ _=>exact ha.elim
   |live tk ts=>
     obtain ⟨kk,pl⟩:=tk
     cases kk<;>simp only [lN,Mode.tk] at ht
     case name=>exact .inl ⟨he,by rw [bz];omega,rfl⟩
     all_goals exact .inr (.inl ⟨he,by rw [aj];omega,rfl⟩)
 . refine .inr (.inr ⟨he,?_⟩)
   cases m with
   |dead _ _=>rfl
   |live tk ts=>exact absurd trivial ha
section
variable {o:World×Value} {w w':World} {p b:Nat} {c:eT} {v:Value} {m:Mode} {n:Nat} {X:Item} {a:SV}
theorem St.grouped (S0:St o w p c v m n [.box b (oS a) 91,X])(hm:m.len<=600)(h2:a.k=(none,0,0)):Calls Tryz.prog 50 #[.pointer (some ⟨p,0,none⟩),.pointer (some ⟨b,0,none⟩)] w λr w'=>
 r=.returned (.tuple #[])/\∃a':SV,St o w' p c v (cC jO ((xd m).2.take gW)).2 n [.box b (oS a') 91,X]:=by
 obtain ⟨i0,hi,jS,jD,jv⟩:=info_parts Tryz.Yd;have SA:St o w p c v m n [.box b (oS { a with k:=(none,0,0) }) 91,X]:=by
  have e:{ a with k:=(none,0,0) }=a:=by cases a;cases h2;rfl
  rw [e];exact S0
 obtain ⟨k,t,i,j,c2,c3,c4,c5,_,_,ht,_⟩:=S0.rd.tok;obtain ⟨e,c6,he⟩:=S0.rd.err;have Ip:=JC m;rcases ajx (ae ht) he with ⟨e0,k0,hk⟩|⟨e0,k0,hk⟩|⟨e0,hk⟩
 case' inl=>
  have HK:=hide hk;clear hk he ht;go_enter Tryz.func50,Tryz.ntmps50;go_wp2_with fail;refine (SA.rd.names hm).mono ?_;rintro r w9 ⟨na,nq,nk,rfl,h9,f9⟩;have S9:=SA.call h9 f9;have c4':w9.cell? ⟨b,4,none⟩=some (.slice a.n.1 a.n.2.1 a.n.2.2):=cG S9.box 4;have z4:=bf S9.box 4;obtain ⟨a1,ha1⟩:∃a1:SV,a1={ a with n:=(na,nq,nk) }:=⟨_,rfl⟩;have Sx:St o (w9.setCell ⟨b,4,none⟩ (.slice na nq nk)) p c v (gu m).2 n [.box b (oS { a1 with k:=(none,0,0) }) 91,X]:=by rw [ha1];exact S9.put 4 (.slice na nq nk)
  clear ha1;go_wp2_with fail;generalize (gu m).2=mk at Sx Ip HK
 case' inr.inl=>
  obtain ⟨mk,hmk⟩:∃mk,m=mk:=⟨_,rfl⟩;obtain ⟨a1,ha1⟩:∃a1:SV,a=a1:=⟨_,rfl⟩;have HK:=hide (hk.trans hmk);have Sx:=SA;rw [hmk,ha1] at Sx;clear Ip;have Ip:mk.len<=m.len:=by rw [hmk];exact af _
  clear hk he ht hmk ha1;go_enter Tryz.func50,Tryz.ntmps50;go_wp2_with fail
 case' inr.inr=>
  obtain ⟨mk,hmk⟩:∃mk,m=mk:=⟨_,rfl⟩;obtain ⟨a1,ha1⟩:∃a1:SV,a=a1:=⟨_,rfl⟩;have HK:=hide (hk.trans hmk);have Sx:=SA;rw [hmk,ha1] at Sx;clear Ip;have Ip:mk.len<=m.len:=by rw [hmk];exact af _
  clear hk he ht hmk ha1;go_enter Tryz.func50,Tryz.ntmps50;go_wp2_with fail
 all_goals
  refine (Sx.rd.take _).mono ?_;rintro r wa ⟨_,rfl,ha',fa⟩;have ha:Rd o wa p c v (mk.take gW) n:=ha';have SK:=take_len mk gW;clear ha' c2 c3 c4 c5 c6;go_wp2_with fail;refine (ha.made).mono ?_;rintro r w2 ⟨d1,d2,d3,d4,d5,d6,d7,rfl,Bv,f2⟩;have G7:=Gj (mk.take gW);have Ye:=(((Sx.call ha fa).call Bv f2).nil 156 7).new #[.string d1,.int .i64 d2,.string d3,.int .i64 d4,.string d5,.int .i64 d6,.bool d7] 156;obtain ⟨wd,Ct⟩:∃wd,wd=w2.alloc (.cells #[.string d1,.int .i64 d2,.string d3,.int .i64 d4,.string d5,.int .i64 d6,.bool d7] 156 (0,0)):=⟨_,rfl⟩;rw [<- Ct] at Ye;have c11:wd.cell? ⟨b,11,none⟩=some (.slice none 0 0):=cG Ye.drop.drop.box 11;obtain ⟨m0,m1,m2,m3,m4,m5,m6⟩:=fu Ye.box;have afe:=(dM.mp Ye.drop.drop.box).1;have Sw:=((Ye.alloc (.cells #[.string d1,.int .i64 d2,.string d3,.int .i64 d4,.string d5,.int .i64 d6,.bool d7] 156)).drew).jG;obtain ⟨xs,own⟩:=Sw.row;have xD:=hide own;have yU:=hide (World.news_of_block (w:=(wd.alloc (.cells #[.string d1,.int .i64 d2,.string d3,.int .i64 d4,.string d5,.int .i64 d6,.bool d7] 156 (0,0))).drew) (B:=wd.heap.size) (ai wd (.cells #[.string d1,.int .i64 d2,.string d3,.int .i64 d4,.string d5,.int .i64 d6,.bool d7] 156 (0,0))));have sU:=hide (show (wd.alloc (.cells #[.string d1,.int .i64 d2,.string d3,.int .i64 d4,.string d5,.int .i64 d6,.bool d7] 156 (0,0))).drew.heap.size=wd.heap.size+1 by show (wd.heap.push _).size=_;rw [dq]);have ym:=hide Sw.rd.fr.keeps.size;have H1:=hide (show ∀u∈[Value.string d1,.int .i64 d2,.string d3,.int .i64 d4,.string d5,.int .i64 d6,.bool d7],u.oneCell'=true by intro u hu;simp at hu;rcases hu with rfl|rfl|rfl|rfl|rfl|rfl|rfl<;>rfl);have Ul:=hide Ct;clear own Ct;go_wp2_with fail;rw [<- ae Ul];go_region_law (refine step_append_lies _ rfl (.tmp 31) (.tmp 33) 88 rfl o.1.heap.size 156 i0 _ 7 80 Tryz.underlying88 hi jS jD jv rfl (by decide) _ _ _ (by simp [Act.eval]) (ae xD) ⟨wd.heap.size,0,none⟩ 1 1 [.string d1,.int .i64 d2,.string d3,.int .i64 d4,.string d5,.int .i64 d6,.bool d7] (by simp [Act.eval]) rfl (ae yU) (ae H1) (by decide) (by unfold maxLen;omega) (by omega) (ae ym) (wd.heap.size+1) (ae sU) ?_;intro g gcap we ke qF tu _;have Sd:=Sw.app ke qF (by rw [ae sU];rcases tu with h|h;exact .inl h;exact .inr (by omega));have k11:we.cell? ⟨b,11,none⟩=some (.slice none 0 0):=cG Sd.drop.box 11;have kf:=bf Sd.drop.box 11;clear ke qF tu)
  all_goals
   have Se:St o (we.setCell ⟨b,11,none⟩ (.slice (some ⟨g,0,none⟩) (0+1) gcap)) p c v (jO (mk.take gW)).2 n [.box b (oS { a1 with k:=(some ⟨g,0,none⟩,0+1,gcap) }) 91,X,.box w2.heap.size #[.string d1,.int .i64 d2,.string d3,.int .i64 d4,.string d5,.int .i64 d6,.bool d7] 156,.row (.slice (some ⟨g,0,none⟩) (0+1) gcap) 156 7 (0+1)]:=Sd.jG.put 11 (.slice (some ⟨g,0,none⟩) (0+1) gcap);clear m0 m1 m2 m3 m4 m5 m6 c11;go_wp2_with fail;clear k11 kf;go_loopw [] (λwr=>∃(m':Mode) (sa:Option Addr) (sk q f:Nat) (l:List Vz) (x1 x2 x3 x4 x5 x6 x7:Value),St o wr p c v m' n [.box b (oS { a1 with k:=(sa,q,sk) }) 91,X,.box w2.heap.size #[x1,x2,x3,x4,x5,x6,x7] 156,.row (.slice sa q sk) 156 7 q]/\m'.len<=f/\q+m'.len<=m.len+1/\Hid (fm jO f l m'=cC jO (mk.take gW))) (λwr=>2000 - lenOf ((wr.cell? ⟨b,11,none⟩).getD undef))
   case atStart=>exact ⟨(jO (mk.take gW)).2,_,_,0+1,_,[(jO (mk.take gW)).1],_,_,_,_,_,_,_,Se,af _,by omega,hide rfl⟩
   case round=>
    clear xD yU sU Ul ym H1 Se Sd Sw Ye;obtain ⟨m',sa,sk,q,f,l,x1,x2,x3,x4,x5,x6,x7,S,hfu,yX,HC⟩:=hrel;have M0:lenOf ((wr.cell? ⟨b,11,none⟩).getD undef)=q:=by rw [cG S.box 11];rfl
    cases ic:m'.is (ByteArray.mk #[44])
    . have HF:=hide (show (cC jO ((xd m).2.take gW)).2=m' by rw [ae HK,<- ae HC,lT (show m'.is kj=false from ic)])
      go_wp2_with (go_at_call 30;refine (S.rd.is _).mono ?_;rintro r' w' ⟨rfl,rfl⟩);go_end0;refine ⟨rfl,{ a1 with k:=(sa,q,sk) },?_⟩;rw [ae HF];exact S.jG.jG.drop.drop
    . obtain ⟨e3,e4,e5⟩:=S.rd.live ic
      obtain ⟨f,rfl⟩:∃g,f=g+1:=⟨f - 1,by omega⟩;have o8:=hide (lS (ae HC) (show m'.is kj=true from ic));go_wp2_with (go_at_call 30;refine (S.rd.is _).mono ?_;rintro r' w' ⟨rfl,rfl⟩);refine (S.rd.next e4).mono ?_;rintro r w3 ⟨rfl,h3,f3⟩;go_wp2_with fail;refine (h3.made).mono ?_;rintro r w4 ⟨y1,y2,y3,y4,y5,y6,y7,rfl,h4,f4⟩;have ao0:=Gj m'.next;have S4:=((S.call h3 f3).call h4 f4).jG.jG;obtain ⟨u0,u1,u2,u3,u4,u5,u6⟩:=fu S4.box;have zz:=bf S4.box;have z0:=zz 0;have z1:=zz 1;have z2:=zz 2;have z3:=zz 3;have z4':=zz 4;have z5:=zz 5;have z6:=zz 6;have S5:=((((((S4.put 0 (.string y1)).put 1 (.int .i64 y2)).put 2 (.string y3)).put 3 (.int .i64 y4)).put 4 (.string y5)).put 5 (.int .i64 y6)).put 6 (.bool y7);obtain ⟨wd,Ct⟩:∃wd,wd=((((((w4.setCell ⟨w2.heap.size,0,none⟩ (.string y1)).setCell ⟨w2.heap.size,1,none⟩ (.int .i64 y2)).setCell ⟨w2.heap.size,2,none⟩ (.string y3)).setCell ⟨w2.heap.size,3,none⟩ (.int .i64 y4)).setCell ⟨w2.heap.size,4,none⟩ (.string y5)).setCell ⟨w2.heap.size,5,none⟩ (.int .i64 y6)).setCell ⟨w2.heap.size,6,none⟩ (.bool y7):=⟨_,rfl⟩;rw [<- Ct] at S5;have Ye:St o wd p c v (jO m'.next).2 n [.box w2.heap.size #[.string y1,.int .i64 y2,.string y3,.int .i64 y4,.string y5,.int .i64 y6,.bool y7] 156,.row (.slice sa q sk) 156 7 q,.box b (oS { a1 with k:=(sa,q,sk) }) 91,X]:=S5;clear zz;have c11:wd.cell? ⟨b,11,none⟩=some (.slice sa q sk):=cG Ye.drop.drop.box 11;obtain ⟨m0,m1,m2,m3,m4,m5,m6⟩:=fu Ye.box;have afe:=(dM.mp Ye.drop.drop.box).1;have Sw:=((Ye.alloc (.cells #[.string y1,.int .i64 y2,.string y3,.int .i64 y4,.string y5,.int .i64 y6,.bool y7] 156)).drew).jG;obtain ⟨xs,own⟩:=Sw.row;have xD:=hide own;have yU:=hide (World.news_of_block (w:=(wd.alloc (.cells #[.string y1,.int .i64 y2,.string y3,.int .i64 y4,.string y5,.int .i64 y6,.bool y7] 156 (0,0))).drew) (B:=wd.heap.size) (ai wd (.cells #[.string y1,.int .i64 y2,.string y3,.int .i64 y4,.string y5,.int .i64 y6,.bool y7] 156 (0,0))));have sU:=hide (show (wd.alloc (.cells #[.string y1,.int .i64 y2,.string y3,.int .i64 y4,.string y5,.int .i64 y6,.bool y7] 156 (0,0))).drew.heap.size=wd.heap.size+1 by show (wd.heap.push _).size=_;rw [dq]);have ym:=hide Sw.rd.fr.keeps.size;have H1:=hide (show ∀u∈[Value.string y1,.int .i64 y2,.string y3,.int .i64 y4,.string y5,.int .i64 y6,.bool y7],u.oneCell'=true by intro u hu;simp at hu;rcases hu with rfl|rfl|rfl|rfl|rfl|rfl|rfl<;>rfl);have Ul:=hide Ct;clear own Ct;go_wp2_with fail;rw [<- ae Ul];go_region_law (refine step_append_lies _ rfl (.tmp 47) (.tmp 49) 88 rfl o.1.heap.size 156 i0 _ 7 80 Tryz.underlying88 hi jS jD jv rfl (by decide) _ _ _ (by simp [Act.eval]) (ae xD) ⟨wd.heap.size,0,none⟩ 1 1 [.string y1,.int .i64 y2,.string y3,.int .i64 y4,.string y5,.int .i64 y6,.bool y7] (by simp [Act.eval]) rfl (ae yU) (ae H1) (by decide) (by unfold maxLen;omega) (by omega) (ae ym) (wd.heap.size+1) (ae sU) ?_;intro g gcap we ke qF tu _;have Sd:=Sw.app ke qF (by rw [ae sU];rcases tu with h|h;exact .inl h;exact .inr (by omega));have k11:we.cell? ⟨b,11,none⟩=some (.slice sa q sk):=cG Sd.drop.box 11;have kf:=bf Sd.drop.box 11;clear ke qF tu)
      all_goals
       have Se:St o (we.setCell ⟨b,11,none⟩ (.slice (some ⟨g,0,none⟩) (q+1) gcap)) p c v (jO m'.next).2 n [.box b (oS { a1 with k:=(some ⟨g,0,none⟩,q+1,gcap) }) 91,X,.box w2.heap.size #[.string y1,.int .i64 y2,.string y3,.int .i64 y4,.string y5,.int .i64 y6,.bool y7] 156,.row (.slice (some ⟨g,0,none⟩) (q+1) gcap) 156 7 (q+1)]:=Sd.jG.put 11 (.slice (some ⟨g,0,none⟩) (q+1) gcap);have Uk:lenOf (((we.setCell ⟨b,11,none⟩ (.slice (some ⟨g,0,none⟩) (q+1) gcap)).cell? ⟨b,11,none⟩).getD undef)=q+1:=by rw [cG Se.box 11];rfl
       go_wp2_with fail;go_roundw
       case rel=>exact ⟨_,_,_,q+1,f,_,_,_,_,_,_,_,_,Se,by omega,by omega,o8⟩
       case measure=>rw [Uk,M0];omega
end
end Go.Proofs.YteniahoehoncjaaGreatDoor
